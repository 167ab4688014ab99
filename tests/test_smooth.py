"""A row of numbers smoothed."""

import itertools
import unittest
from fractions import Fraction
from math import floor

from pagestraight.askew import st_smooth
from tests.support import ReadOnlyList

LARGEST = 4294967295


def smoothed(d, numbers):
    """Each place looked at by itself: all others are asked how far away they are."""
    means = []
    for place in range(len(numbers)):
        near = [number for other, number in enumerate(numbers) if abs(other - place) <= d]
        means.append(floor(Fraction(sum(near), len(near))))
    return means


class Smooth(unittest.TestCase):
    def told(self, d, numbers, means):
        with self.subTest(d=d, numbers=numbers[:9], n=len(numbers)):
            self.assertEqual(st_smooth(d, numbers), [0] + means)

    def test_no_number(self):
        for d in (0, 1, 4095, 4096):
            self.told(d, [], [])

    def test_one_number(self):
        for number in (0, 1, 7, LARGEST):
            for d in (0, 1, 2, 4096):
                self.told(d, [number], [number])

    def test_two_numbers(self):
        self.told(0, [3, 9], [3, 9])
        for d in (1, 2, 3, 4096):
            self.told(d, [3, 9], [6, 6])
            self.told(d, [4, 9], [6, 6])
            self.told(d, [9, 4], [6, 6])
            self.told(d, [0, 1], [0, 0])

    def test_d_of_0_leaves_the_numbers(self):
        self.told(0, [5, 0, LARGEST, 7, 7, 1], [5, 0, LARGEST, 7, 7, 1])

    def test_d_of_1(self):
        self.told(1, [3, 6, 9, 0, 30], [4, 6, 5, 13, 15])

    def test_near_the_ends_fewer_numbers_are_in_the_mean(self):
        # 3, 4, 5, 4, 3 numbers are in the means.
        self.told(2, [60, 0, 0, 0, 60], [20, 15, 24, 15, 20])
        self.told(1, [10, 0, 0, 0, 0], [5, 3, 0, 0, 0])
        self.told(1, [0, 0, 0, 0, 10], [0, 0, 0, 3, 5])

    def test_means_are_rounded_down(self):
        # 4 1/2, 5 1/3, 6 2/3, 7 1/2.
        self.told(1, [4, 5, 7, 8], [4, 5, 6, 7])
        self.told(1, [0, 2, 0], [1, 0, 1])
        self.told(4096, [1, 0, 0], [0, 0, 0])
        self.told(4096, [1, 1, 0], [0, 0, 0])
        self.told(4096, [1, 1, 1], [1, 1, 1])

    def test_what_was_smoothed_is_not_smoothed_again(self):
        self.told(1, [0, 0, 9, 0, 0], [0, 3, 3, 3, 0])

    def test_d_around_n(self):
        numbers = [40, 7, 0, 13, 20]
        self.told(3, numbers, [15, 16, 16, 16, 10])
        for d in (4, 5, 6, 100, 4095, 4096):
            self.told(d, numbers, [16] * 5)

    def test_the_smallest_and_the_largest_numbers(self):
        for d in (0, 1, 2, 3, 4096):
            self.told(d, [0] * 5, [0] * 5)
            self.told(d, [LARGEST] * 5, [LARGEST] * 5)
        self.told(1, [LARGEST, 0], [2147483647, 2147483647])
        self.told(1, [LARGEST, LARGEST, LARGEST - 1], [LARGEST, LARGEST - 1, LARGEST - 1])
        self.told(1, [0, LARGEST, 0], [2147483647, 1431655765, 2147483647])

    def test_every_short_row(self):
        for n in range(6):
            for numbers in itertools.product((0, 1, 5), repeat=n):
                for d in range(n + 2):
                    self.assertEqual(st_smooth(d, list(numbers)), [0] + smoothed(d, numbers))

    def test_longer_rows(self):
        for n in (50, 100):
            numbers = [(i * i * 2654435761 + i) % 4294967296 for i in range(n)]
            for d in (0, 1, 2, 7, n // 2, n - 2, n - 1, n, n + 1, 4096):
                self.told(d, numbers, smoothed(d, numbers))

    def test_4096_numbers(self):
        numbers = [(i * i * 2654435761 + i) % 4294967296 for i in range(4096)]
        self.told(0, numbers, numbers)
        inner = [sum(numbers[i - 1:i + 2]) // 3 for i in range(1, 4095)]
        self.told(1, numbers, [sum(numbers[:2]) // 2] + inner + [sum(numbers[4094:]) // 2])
        for d in (4095, 4096):
            self.told(d, numbers, [sum(numbers) // 4096] * 4096)
        means = st_smooth(4094, numbers)[1:]
        self.assertEqual(means[0], sum(numbers[:4095]) // 4095)
        self.assertEqual(means[4095], sum(numbers[1:]) // 4095)
        self.assertEqual(means[1:4095], [sum(numbers) // 4096] * 4094)
        for d in (0, 1, 4096):
            self.told(d, [LARGEST] * 4096, [LARGEST] * 4096)
            self.told(d, [0] * 4096, [0] * 4096)


class Refusals(unittest.TestCase):
    def test_d(self):
        for d in (4097, 4098, 2147483648, LARGEST):
            for numbers in ([], [0], [1, 2, 3], [LARGEST] * 4096):
                self.assertEqual(st_smooth(d, numbers), [-2])

    def test_n(self):
        for n in (4097, 4098, 4200):
            for d in (0, 1, 4096):
                for number in (0, LARGEST):
                    self.assertEqual(st_smooth(d, [number] * n), [-2])

    def test_both(self):
        self.assertEqual(st_smooth(4097, [1] * 4097), [-2])


class HowAnAnswerIsGiven(unittest.TestCase):
    def test_the_list_handed_in_stays_as_it_was(self):
        for numbers in ([], [3], [9, 1, 4, 0], list(range(4096)), [1] * 4097):
            for d in (0, 1, 4096, 4097):
                handed = ReadOnlyList(numbers)
                told = st_smooth(d, handed)
                self.assertIsNot(told, handed)
                self.assertEqual(list(handed), numbers)

    def test_a_second_call_answers_as_the_first(self):
        first = st_smooth(1, [9, 1, 4])
        first.clear()
        st_smooth(0, [0, 0, 500, 7])
        st_smooth(4097, [9, 1, 4])
        st_smooth(1, [0] * 4097)
        self.assertEqual(st_smooth(1, [9, 1, 4]), [0, 5, 4, 2])

    def test_an_answer_is_a_list_of_plain_whole_numbers(self):
        for told in (st_smooth(0, []), st_smooth(0, [1]), st_smooth(1, [5, 1, 5]), st_smooth(4097, [])):
            self.assertIs(type(told), list)
            self.assertEqual({type(number) for number in told}, {int})


if __name__ == "__main__":
    unittest.main()

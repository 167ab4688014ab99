"""The gaps of a row of numbers."""

import itertools
import unittest

from pagestraight.askew import st_gaps
from tests.support import ReadOnlyList, gaps

LARGEST = 4294967295


class Gaps(unittest.TestCase):
    def told(self, most, numbers, begins, lengths):
        how_many = len(begins)
        self.assertEqual(st_gaps(most, numbers), [how_many, how_many] + begins + [how_many] + lengths)

    def test_no_number(self):
        for most in (0, 1, LARGEST):
            self.assertEqual(st_gaps(most, []), [0, 0, 0])

    def test_one_number(self):
        self.assertEqual(st_gaps(0, [0]), [1, 1, 0, 1, 1])
        self.assertEqual(st_gaps(0, [1]), [0, 0, 0])
        self.assertEqual(st_gaps(7, [7]), [1, 1, 0, 1, 1])
        self.assertEqual(st_gaps(7, [8]), [0, 0, 0])

    def test_all_numbers_are_one_gap(self):
        self.told(3, [1, 2, 3, 0, 3], [0], [5])

    def test_none_is_a_gap(self):
        self.told(3, [4, 5, 4, LARGEST], [], [])

    def test_gaps_at_the_front_in_the_middle_and_at_the_end(self):
        self.told(0, [0, 0, 5, 5], [0], [2])
        self.told(0, [5, 0, 0, 0, 5], [1], [3])
        self.told(0, [5, 5, 5, 0], [3], [1])
        self.told(0, [0, 5, 5, 0, 0, 5, 0, 0, 0], [0, 3, 6], [1, 2, 3])

    def test_gaps_with_one_number_between_them(self):
        self.told(0, [0, 5, 0, 5, 0], [0, 2, 4], [1, 1, 1])
        self.told(0, [5, 0, 0, 5, 0, 5], [1, 4], [2, 1])

    def test_numbers_of_a_gap_need_not_be_equal(self):
        self.told(5, [5, 0, 3, 6, 1, 5], [0, 4], [3, 2])

    def test_most_itself_is_in_a_gap_and_one_above_is_not(self):
        for most in (0, 1, 65535, 65536, 2147483647, 2147483648, LARGEST - 1):
            self.told(most, [most, most + 1, most, most], [0, 2], [1, 2])

    def test_most_of_0_and_the_largest_most(self):
        self.told(0, [0, 1, LARGEST, 0], [0, 3], [1, 1])
        self.told(LARGEST, [0, 1, LARGEST, 0], [0], [4])

    def test_4096_numbers_are_in_range_and_more_are_not(self):
        self.told(0, [0] * 4096, [0], [4096])
        self.told(0, [1] * 4096, [], [])
        self.told(0, [0, 1] * 2048, list(range(0, 4096, 2)), [1] * 2048)
        for n in (4097, 4098, 4200):
            for most in (0, 1, LARGEST):
                for number in (0, 1, LARGEST):
                    self.assertEqual(st_gaps(most, [number] * n), [-2])

    def test_every_short_row(self):
        for n in range(8):
            for numbers in itertools.product((0, 1, 2), repeat=n):
                for most in (0, 1, 2):
                    self.assertEqual(st_gaps(most, list(numbers)), gaps(most, numbers))

    def test_long_rows(self):
        for n in (1000, 4095, 4096):
            numbers = [i * i * 2654435761 % 4294967296 >> 7 << 3 for i in range(n)]
            for most in (0, 40, 100000000, 200000000, LARGEST):
                with self.subTest(n=n, most=most):
                    self.assertEqual(st_gaps(most, numbers), gaps(most, numbers))


class HowAnAnswerIsGiven(unittest.TestCase):
    def test_the_list_handed_in_stays_as_it_was(self):
        for numbers in ([], [3], [9, 1, 4, 0], list(range(4096)), [1] * 4097):
            handed = ReadOnlyList(numbers)
            st_gaps(3, handed)
            self.assertEqual(list(handed), numbers)

    def test_a_second_call_answers_as_the_first(self):
        first = st_gaps(3, [9, 1, 4])
        first.clear()
        st_gaps(0, [0, 0, 500])
        st_gaps(0, [0] * 4097)
        self.assertEqual(st_gaps(3, [9, 1, 4]), [1, 1, 1, 1, 1])

    def test_an_answer_is_a_list_of_plain_whole_numbers(self):
        for told in (st_gaps(0, []), st_gaps(0, [1]), st_gaps(1, [1, 5, 1]), st_gaps(0, [0] * 4097)):
            self.assertIs(type(told), list)
            self.assertEqual({type(number) for number in told}, {int})


if __name__ == "__main__":
    unittest.main()

"""The hills of a row of numbers."""

import itertools
import unittest

from pagestraight.askew import st_hills
from tests.support import ReadOnlyList

LARGEST = 4294967295


def hills(numbers):
    """The places of the hills; beyond the ends every number is 0."""
    row = dict(enumerate(numbers))
    return [place for place, number in row.items()
            if number > row.get(place - 1, 0) and not number < row.get(place + 1, 0)]


class Hills(unittest.TestCase):
    def told(self, numbers, places):
        with self.subTest(numbers=numbers[:9], n=len(numbers)):
            self.assertEqual(st_hills(numbers), [len(places)] + places)

    def test_no_number(self):
        self.told([], [])

    def test_one_number(self):
        self.told([0], [])
        for number in (1, 2, 65536, LARGEST):
            self.told([number], [0])

    def test_two_numbers(self):
        self.told([1, 2], [1])
        self.told([2, 1], [0])
        self.told([2, 2], [0])
        self.told([0, 2], [1])
        self.told([2, 0], [0])

    def test_rising_numbers(self):
        self.told([1, 2, 3, 4], [3])
        self.told([0, 1, 2, 3], [3])

    def test_falling_numbers(self):
        self.told([4, 3, 2, 1], [0])
        self.told([3, 2, 1, 0], [0])

    def test_equal_numbers(self):
        self.told([5, 5, 5, 5], [0])
        self.told([LARGEST] * 3, [0])

    def test_all_0(self):
        for n in (1, 2, 3, 4096):
            self.told([0] * n, [])

    def test_a_hill_in_the_middle(self):
        self.told([1, 5, 2], [1])
        self.told([1, 3, 7, 3, 1], [2])
        self.told([0, 0, 1, 0, 0], [2])

    def test_of_a_flat_top_only_the_first_is_a_hill(self):
        self.told([1, 5, 5, 2], [1])
        self.told([1, 5, 5, 5, 2], [1])
        self.told([0, 4, 4], [1])
        self.told([4, 4, 0], [0])

    def test_a_step_on_the_way_up_is_not_below_the_one_behind_it(self):
        self.told([1, 5, 5, 7], [1, 3])
        self.told([5, 5, 7, 7, 6], [0, 2])

    def test_a_step_on_the_way_down_is_not_above_the_one_before_it(self):
        self.told([7, 5, 5, 1], [0])

    def test_a_valley(self):
        self.told([5, 1, 5], [0, 2])
        self.told([5, 0, 0, 5], [0, 3])
        self.told([0, 5, 0], [1])

    def test_hills_at_both_ends_and_between(self):
        self.told([3, 1, 4, 1, 5], [0, 2, 4])
        self.told([9, 8, 9, 9, 8, 7, 9], [0, 2, 6])

    def test_the_largest_numbers(self):
        self.told([LARGEST, LARGEST - 1, LARGEST], [0, 2])
        self.told([LARGEST - 1, LARGEST, LARGEST - 1], [1])
        self.told([0, LARGEST, 0, LARGEST], [1, 3])
        self.told([2147483647, 2147483648, 2147483647], [1])
        self.told([2147483648, 2147483647, 2147483648], [0, 2])

    def test_every_short_row(self):
        for n in range(7):
            for numbers in itertools.product(range(4), repeat=n):
                self.assertEqual(st_hills(list(numbers)), [len(hills(numbers))] + hills(numbers))

    def test_4096_numbers_are_in_range_and_more_are_not(self):
        self.told([0, 1] * 2048, list(range(1, 4096, 2)))
        self.told([1, 0] * 2048, list(range(0, 4096, 2)))
        self.told(list(range(4096)), [4095])
        self.told(list(range(4096, 0, -1)), [0])
        numbers = [(i * i * 2654435761 + i) % 4294967296 for i in range(4096)]
        self.told(numbers, hills(numbers))
        for n in (4097, 4098, 4200):
            for number in (0, 1, LARGEST):
                self.assertEqual(st_hills([number] * n), [-2])


class HowAnAnswerIsGiven(unittest.TestCase):
    def test_the_list_handed_in_stays_as_it_was(self):
        for numbers in ([], [3], [9, 1, 4, 0], list(range(4096)), [1] * 4097):
            handed = ReadOnlyList(numbers)
            st_hills(handed)
            self.assertEqual(list(handed), numbers)

    def test_a_second_call_answers_as_the_first(self):
        first = st_hills([9, 1, 4])
        first.clear()
        st_hills([0, 0, 500])
        st_hills([0] * 4097)
        self.assertEqual(st_hills([9, 1, 4]), [2, 0, 2])

    def test_an_answer_is_a_list_of_plain_whole_numbers(self):
        for told in (st_hills([]), st_hills([1]), st_hills([5, 1, 5]), st_hills([0] * 4097)):
            self.assertIs(type(told), list)
            self.assertEqual({type(number) for number in told}, {int})


if __name__ == "__main__":
    unittest.main()

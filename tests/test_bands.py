"""What is left of a row of numbers without its long gaps."""

import itertools
import unittest

from pagestraight.askew import st_bands, st_gaps
from tests.support import ReadOnlyList, bands

LARGEST = 4294967295


class Bands(unittest.TestCase):
    def told(self, most, least, numbers, begins, lengths):
        how_many = len(begins)
        with self.subTest(most=most, least=least, numbers=numbers[:9]):
            self.assertEqual(st_bands(most, least, numbers), [how_many, how_many] + begins + [how_many] + lengths)

    def test_no_number(self):
        for most in (0, LARGEST):
            for least in (0, 1, LARGEST):
                self.assertEqual(st_bands(most, least, []), [0, 0, 0])

    def test_one_number(self):
        for least in (0, 1):
            self.told(0, least, [0], [], [])
        for least in (2, LARGEST):
            self.told(0, least, [0], [0], [1])
        for least in (0, 1, 2, LARGEST):
            self.told(0, least, [1], [0], [1])

    def test_a_row_that_is_one_gap(self):
        for least in (0, 1, 4, 5):
            self.told(3, least, [1, 2, 3, 0, 3], [], [])
        for least in (6, LARGEST):
            self.told(3, least, [1, 2, 3, 0, 3], [0], [5])

    def test_a_row_without_a_gap(self):
        for least in (0, 1, 4, 5, LARGEST):
            self.told(3, least, [4, 5, 4, LARGEST], [0], [4])

    def test_gaps_at_the_front_in_the_middle_and_at_the_end(self):
        for least in (0, 1, 2):
            self.told(0, least, [0, 0, 5, 5], [2], [2])
            self.told(0, least, [5, 0, 0, 5, 5], [0, 3], [1, 2])
            self.told(0, least, [5, 5, 5, 0, 0], [0], [3])
        for least in (3, LARGEST):
            self.told(0, least, [0, 0, 5, 5], [0], [4])
            self.told(0, least, [5, 0, 0, 5, 5], [0], [5])
            self.told(0, least, [5, 5, 5, 0, 0], [0], [5])

    def test_gaps_shorter_than_least_stay_within_their_piece(self):
        row = [0, 5, 5, 0, 0, 5, 0, 0, 0]
        self.told(0, 0, row, [1, 5], [2, 1])
        self.told(0, 1, row, [1, 5], [2, 1])
        self.told(0, 2, row, [0, 5], [3, 1])
        self.told(0, 3, row, [0], [6])
        self.told(0, 4, row, [0], [9])
        # A short gap at a piece's beginning and end belongs to it.
        self.told(0, 2, [0, 7, 0, 7, 0, 0, 7, 0], [0, 6], [4, 2])

    def test_gaps_with_one_number_between_them(self):
        for least in (0, 1):
            self.told(0, least, [0, 5, 0, 5, 0], [1, 3], [1, 1])
        self.told(0, 2, [0, 5, 0, 5, 0], [0], [5])

    def test_most_itself_is_in_a_gap_and_one_above_is_not(self):
        for most in (0, 1, 65535, 2147483647, 2147483648, LARGEST - 1):
            self.told(most, 1, [most + 1, most, most + 1], [0, 2], [1, 1])
            self.told(most, 2, [most + 1, most, most + 1], [0], [3])

    def test_the_largest_most(self):
        self.told(LARGEST, 4, [0, 1, LARGEST, 0], [], [])
        self.told(LARGEST, 5, [0, 1, LARGEST, 0], [0], [4])

    def test_4096_numbers_are_in_range_and_more_are_not(self):
        self.told(0, 4096, [0] * 4096, [], [])
        self.told(0, 4097, [0] * 4096, [0], [4096])
        self.told(0, 1, [1] * 4096, [0], [4096])
        self.told(0, 1, [0, 1] * 2048, list(range(1, 4096, 2)), [1] * 2048)
        self.told(0, 2, [0, 1] * 2048, [0], [4096])
        for n in (4097, 4098, 4200):
            for most in (0, LARGEST):
                for least in (0, 1, LARGEST):
                    for number in (0, 1, LARGEST):
                        self.assertEqual(st_bands(most, least, [number] * n), [-2])

    def test_every_short_row(self):
        for n in range(10):
            for numbers in itertools.product((3, 4), repeat=n):
                for least in range(n + 2):
                    told = st_bands(3, least, list(numbers))
                    self.assertEqual(told, bands(3, least, numbers))
                    self.assertNotIn(0, told[len(told) - told[0]:])

    def test_long_rows(self):
        for n in (1000, 4095, 4096):
            numbers = [i * i * 2654435761 % 4294967296 >> 7 << 3 for i in range(n)]
            for most in (0, 40, 100000000, 200000000, LARGEST):
                for least in (0, 1, 2, 3, 10, 4096, LARGEST):
                    with self.subTest(n=n, most=most, least=least):
                        self.assertEqual(st_bands(most, least, numbers), bands(most, least, numbers))

    def test_gaps_and_bands_by_1_fill_the_row_between_them(self):
        numbers = [i * 7 % 5 for i in range(50)]
        places = []
        for told in (st_gaps(2, numbers), st_bands(2, 1, numbers)):
            for i in range(told[0]):
                begin, length = told[2 + i], told[3 + told[0] + i]
                places.extend(range(begin, begin + length))
        self.assertEqual(sorted(places), list(range(50)))


class HowAnAnswerIsGiven(unittest.TestCase):
    def test_the_list_handed_in_stays_as_it_was(self):
        for numbers in ([], [3], [9, 1, 4, 0], list(range(4096)), [1] * 4097):
            handed = ReadOnlyList(numbers)
            st_bands(3, 1, handed)
            self.assertEqual(list(handed), numbers)

    def test_a_second_call_answers_as_the_first(self):
        first = st_bands(3, 1, [9, 1, 4])
        first.clear()
        st_bands(0, 2, [0, 0, 500])
        st_bands(0, 0, [0] * 4097)
        self.assertEqual(st_bands(3, 1, [9, 1, 4]), [2, 2, 0, 2, 2, 1, 1])

    def test_an_answer_is_a_list_of_plain_whole_numbers(self):
        for told in (st_bands(0, 0, []), st_bands(0, 0, [1]), st_bands(1, 1, [5, 1, 5]), st_bands(0, 0, [0] * 4097)):
            self.assertIs(type(told), list)
            self.assertEqual({type(number) for number in told}, {int})


if __name__ == "__main__":
    unittest.main()

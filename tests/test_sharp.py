"""How sharp a row of numbers is."""

import unittest

from pagestraight.askew import st_sharp
from tests.support import ReadOnlyList, how_sharp

LARGEST = 65535


class Sharp(unittest.TestCase):
    def test_no_number_and_one_number(self):
        self.assertEqual(st_sharp([]), [0, 0])
        for number in (0, 1, 7, LARGEST):
            self.assertEqual(st_sharp([number]), [0, 0])

    def test_two_numbers(self):
        self.assertEqual(st_sharp([3, 5]), [0, 4])
        self.assertEqual(st_sharp([5, 3]), [0, 4])
        self.assertEqual(st_sharp([5, 5]), [0, 0])
        self.assertEqual(st_sharp([0, LARGEST]), [0, 4294836225])
        self.assertEqual(st_sharp([LARGEST, 0]), [0, 4294836225])

    def test_more_numbers(self):
        self.assertEqual(st_sharp([1, 2, 3, 4]), [0, 3])
        self.assertEqual(st_sharp([4, 3, 2, 1]), [0, 3])
        self.assertEqual(st_sharp([0, 10, 0]), [0, 200])
        self.assertEqual(st_sharp([1, 4, 2, 2, 9]), [0, 9 + 4 + 0 + 49])
        self.assertEqual(st_sharp([7, 7, 7, 7, 7]), [0, 0])

    def test_the_first_and_the_last_are_not_side_by_side(self):
        self.assertEqual(st_sharp([0, 0, 5]), [0, 25])
        self.assertEqual(st_sharp([5, 0, 0]), [0, 25])

    def test_many_numbers(self):
        for n in (100, 1001, 4095, 4096):
            numbers = [i * i * 31 % 65536 for i in range(n)]
            with self.subTest(n=n):
                self.assertEqual(st_sharp(numbers), [0, how_sharp(numbers)])

    def test_the_sharpest_is_told_whole_also_above_a_word(self):
        self.assertEqual(st_sharp([0, LARGEST] * 2048), [0, 4095 * 4294836225])
        self.assertEqual(st_sharp([0, LARGEST, 0]), [0, 8589672450])

    def test_4096_numbers_are_in_range_and_more_are_not(self):
        self.assertEqual(st_sharp([LARGEST] * 4096), [0, 0])
        for n in (4097, 4098, 4200):
            for number in (0, LARGEST):
                self.assertEqual(st_sharp([number] * n), [-2])
        self.assertEqual(st_sharp(list(range(4097))), [-2])

    def test_numbers_of_2_to_the_16_and_above_are_not_in_range(self):
        for wrong in (65536, 65537, 4294967295):
            for numbers in ([wrong], [wrong, 1], [1, wrong], [1, wrong, 1], [wrong] * 4096):
                self.assertEqual(st_sharp(numbers), [-2])


class HowAnAnswerIsGiven(unittest.TestCase):
    def test_the_list_handed_in_stays_as_it_was(self):
        for numbers in ([], [3], [9, 1, 4], list(range(4096)), [1] * 4097):
            handed = ReadOnlyList(numbers)
            told = st_sharp(handed)
            self.assertEqual(list(handed), numbers)
            self.assertEqual(st_sharp(handed), told)

    def test_a_second_call_answers_as_the_first(self):
        first = st_sharp([9, 1, 4])
        first.clear()
        st_sharp([5, 500])
        st_sharp([0] * 4097)
        self.assertEqual(st_sharp([9, 1, 4]), [0, 73])

    def test_an_answer_is_a_list_of_plain_whole_numbers(self):
        for told in (st_sharp([]), st_sharp([1]), st_sharp([1, 5]), st_sharp([0] * 4097)):
            self.assertIs(type(told), list)
            self.assertEqual({type(number) for number in told}, {int})


if __name__ == "__main__":
    unittest.main()

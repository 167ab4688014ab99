"""The counts of a sheared page's rows."""

import unittest

from pagestraight.askew import st_counts, st_shear
from tests.support import (
    ReadOnlyList, all_dots, counts_of_rows, drawn, page, shear_dots, some_dots, word, words_wide,
)

SIZES = (
    (1, 1), (1, 9), (9, 1), (2, 2), (7, 7), (31, 6), (32, 6), (33, 6), (64, 5), (65, 5), (5, 64), (70, 40), (97, 33),
)
EDGE_SIZES = ((1, 256), (256, 1), (256, 256))
SLOPES = (
    (0, 1), (0, 4096), (1, 1), (-1, 1), (1, 2), (-1, 2), (3, 4), (-3, 4), (5, 64), (-7, 100), (40, 1), (-40, 1),
    (4096, 4096), (-4096, 4096), (4096, 1), (-4096, 1),
)


def bits_of_rows(w, h, words):
    wide = words_wide(w)
    return [sum(bin(one).count("1") for one in words[r * wide:(r + 1) * wide]) for r in range(h)]


class Counts(unittest.TestCase):
    def hold(self, k, d, w, h, dots, behind=0):
        with self.subTest(k=k, d=d, w=w, h=h, behind=behind):
            words = page(w, h, dots, behind)
            told = st_counts(word(k), d, w, h, words)
            self.assertEqual(told, [0] + counts_of_rows(w, h, shear_dots(k, d, w, h, dots)))
            self.assertEqual(told[1:], bits_of_rows(w, h, st_shear(word(k), d, w, h, words)[1:]))

    def test_ordinary_pages(self):
        for w, h in SIZES:
            for k, d in SLOPES:
                self.hold(k, d, w, h, some_dots(w, h))

    def test_the_largest_pages(self):
        for w, h in EDGE_SIZES:
            for k, d in ((0, 1), (1, 4), (-97, 4096), (4096, 1), (-4096, 1)):
                self.hold(k, d, w, h, some_dots(w, h, seed=5))

    def test_full_and_white_pages(self):
        for w, h in SIZES + EDGE_SIZES:
            for k, d in ((0, 1), (-3, 4), (2, 1)):
                self.hold(k, d, w, h, all_dots(w, h))
                self.hold(k, d, w, h, set())

    def test_bits_behind_the_last_column_do_not_matter(self):
        for w, h in ((1, 1), (1, 9), (31, 6), (33, 6), (65, 5), (97, 33)):
            for k, d in ((0, 1), (1, 3), (-5, 1)):
                self.hold(k, d, w, h, set(), behind=1)
                self.hold(k, d, w, h, some_dots(w, h), behind=1)


class CountsByHand(unittest.TestCase):
    def told(self, k, d, rows, counts):
        w, h, words = drawn(rows)
        self.assertEqual(st_counts(k, d, w, h, words), [0] + counts)

    def test_k_of_0_counts_the_page_itself(self):
        self.told(0, 1, ["#.#", "...", "###", ".#."], [2, 0, 3, 1])

    def test_a_row_is_spread_and_a_stair_gathered(self):
        self.told(1, 1, ["...", "###", "..."], [1, 1, 1])
        self.told(4294967295, 1, ["#..", ".#.", "..#"], [0, 3, 0])
        self.told(1, 1, ["..#", ".#.", "#.."], [0, 3, 0])

    def test_a_half_goes_up(self):
        self.told(1, 1, ["..", "##", ".."], [0, 1, 1])
        self.told(4294967295, 1, ["..", "##", ".."], [0, 1, 1])

    def test_dots_that_leave_the_page_are_not_counted(self):
        # -1, 0, 1: out above from the first row, out below from the last.
        self.told(1, 1, ["###", "###"], [2, 2])
        self.told(1, 1, ["###"], [1])
        for k in (4096, 4294963200):
            self.told(k, 1, ["#####", "#####"], [1, 1])
            self.told(k, 1, ["####", "####"], [0, 0])

    def test_a_row_of_256(self):
        self.assertEqual(st_counts(0, 1, 256, 1, [4294967295] * 8), [0, 256])


class HowAnAnswerIsGiven(unittest.TestCase):
    def test_the_list_handed_in_stays_as_it_was(self):
        for w, h in ((7, 7), (33, 6), (97, 33)):
            words = page(w, h, some_dots(w, h), behind=1)
            handed = ReadOnlyList(words)
            st_counts(word(-3), 4, w, h, handed)
            self.assertEqual(list(handed), words)

    def test_a_second_call_answers_as_the_first(self):
        words = page(40, 20, some_dots(40, 20))
        first = st_counts(5, 7, 40, 20, words)
        kept = list(first)
        first.clear()
        st_counts(word(-5), 3, 20, 40, page(20, 40, some_dots(20, 40)))
        st_counts(5, 0, 40, 20, words)
        self.assertEqual(st_counts(5, 7, 40, 20, words), kept)

    def test_an_answer_is_a_list_of_plain_whole_numbers(self):
        for told in (st_counts(1, 2, 33, 6, page(33, 6, all_dots(33, 6))), st_counts(1, 0, 1, 1, [])):
            self.assertIs(type(told), list)
            self.assertEqual({type(number) for number in told}, {int})


if __name__ == "__main__":
    unittest.main()

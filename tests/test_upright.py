"""Whether a page lies on its side."""

import itertools
import unittest

from pagestraight.askew import st_counts, st_sharp, st_upright
from tests.support import (
    ReadOnlyList, all_dots, counts_of_columns, counts_of_rows, drawn, how_sharp, page, some_dots,
)

LARGEST = 4294967295
SIZES = (
    (1, 1), (1, 9), (9, 1), (2, 2), (7, 7), (31, 6), (32, 6), (33, 6), (6, 33), (64, 5), (65, 5), (5, 65), (97, 33),
    (1, 256), (256, 1), (40, 256), (256, 40), (256, 256),
)


def upright(w, h, dots):
    rows = how_sharp(counts_of_rows(w, h, dots))
    columns = how_sharp(counts_of_columns(w, h, dots))
    return [int(columns > rows), rows, columns]


def lines(w, h):
    """Every third row is black."""
    return {(c, r) for c in range(w) for r in range(1, h, 3)}


def posts(w, h):
    """Every third column is black."""
    return {(c, r) for c in range(1, w, 3) for r in range(h)}


class HeldAgainstDots(unittest.TestCase):
    def hold(self, w, h, dots, behind=0):
        with self.subTest(w=w, h=h, behind=behind):
            self.assertEqual(st_upright(w, h, page(w, h, dots, behind)), upright(w, h, dots))

    def test_ordinary_pages(self):
        for w, h in SIZES:
            for seed in (1, 2, 3):
                self.hold(w, h, some_dots(w, h, seed))

    def test_lines_and_posts(self):
        for w, h in SIZES:
            self.hold(w, h, lines(w, h))
            self.hold(w, h, posts(w, h))

    def test_empty_and_full_pages_have_nothing_sharp(self):
        for w, h in SIZES:
            for behind in (0, 1):
                self.assertEqual(st_upright(w, h, page(w, h, set(), behind)), [0, 0, 0])
                self.assertEqual(st_upright(w, h, page(w, h, all_dots(w, h), behind)), [0, 0, 0])

    def test_one_dot(self):
        # At an end it has one beside it, else two, and alone in its row or column none.
        for w, h in SIZES:
            for c in sorted({0, w // 2, w - 1}):
                for r in sorted({0, h // 2, h - 1}):
                    rows = (r > 0) + (r < h - 1)
                    columns = (c > 0) + (c < w - 1)
                    told = st_upright(w, h, page(w, h, {(c, r)}, behind=1))
                    self.assertEqual(told, [int(columns > rows), rows, columns])

    def test_bits_behind_the_last_column_do_not_matter(self):
        for w, h in ((1, 1), (1, 9), (31, 6), (33, 6), (65, 5), (97, 33)):
            self.hold(w, h, some_dots(w, h), behind=1)
            self.hold(w, h, lines(w, h), behind=1)
            self.hold(w, h, posts(w, h), behind=1)

    def test_every_page_of_3_by_3(self):
        places = [(c, r) for r in range(3) for c in range(3)]
        for marks in itertools.product((0, 1), repeat=9):
            dots = {place for place, mark in zip(places, marks) if mark}
            self.assertEqual(st_upright(3, 3, page(3, 3, dots)), upright(3, 3, dots))

    def test_the_rows_agree_with_the_other_calls(self):
        words = page(40, 30, some_dots(40, 30))
        counts = st_counts(0, 1, 40, 30, words)[1:]
        self.assertEqual(st_upright(40, 30, words)[1], st_sharp(counts)[1])


class ByHand(unittest.TestCase):
    def told(self, rows, answer):
        w, h, words = drawn(rows)
        self.assertEqual(st_upright(w, h, words), answer)

    def test_rows_that_are_sharper(self):
        self.told(["####", "....", "####"], [0, 32, 0])
        # Rows have 3, 0, 2 dots, columns 2, 2, 1.
        self.told(["###", "...", "##."], [0, 13, 1])

    def test_columns_that_are_sharper(self):
        self.told(["#.#", "#.#", "#.#", "#.#"], [1, 0, 32])
        self.told(["#.#", "#.#", "#.."], [1, 1, 13])

    def test_the_least_that_tells_them_apart(self):
        # Rows have 1, 0 dots, columns 0, 1, 0.
        self.told([".#.", "..."], [1, 1, 2])
        self.told(["..", "#.", ".."], [0, 2, 1])

    def test_as_sharp_ones(self):
        self.told(["#..", "...", "..."], [0, 1, 1])
        self.told(["...", ".#.", "..."], [0, 2, 2])
        self.told(["#..", ".#.", "..#"], [0, 0, 0])
        self.told(["###", "#..", "#.."], [0, 4, 4])

    def test_a_row_alone_and_a_column_alone(self):
        self.told(["#.##."], [1, 0, 3])
        self.told(["#", ".", "#", "#", "."], [0, 3, 0])
        self.told(["#"], [0, 0, 0])
        self.told(["."], [0, 0, 0])

    def test_the_sharpest_pages(self):
        rows = ([LARGEST] * 8 + [0] * 8) * 128
        self.assertEqual(st_upright(256, 256, rows), [0, 255 * 65536, 0])
        self.assertEqual(st_upright(256, 256, [0x55555555] * 2048), [1, 0, 255 * 65536])


class HowAnAnswerIsGiven(unittest.TestCase):
    def test_the_list_handed_in_stays_as_it_was(self):
        for w, h in ((7, 7), (33, 6), (97, 33)):
            words = page(w, h, some_dots(w, h), behind=1)
            handed = ReadOnlyList(words)
            st_upright(w, h, handed)
            self.assertEqual(list(handed), words)

    def test_a_second_call_answers_as_the_first(self):
        words = page(40, 20, some_dots(40, 20))
        first = st_upright(40, 20, words)
        kept = list(first)
        first.clear()
        st_upright(20, 40, page(20, 40, some_dots(20, 40)))
        st_upright(0, 20, words)
        self.assertEqual(st_upright(40, 20, words), kept)

    def test_an_answer_is_a_list_of_plain_whole_numbers(self):
        for told in (st_upright(1, 1, [1]), st_upright(2, 1, [1]), st_upright(1, 2, [1, 0]), st_upright(0, 1, [])):
            self.assertIs(type(told), list)
            self.assertEqual({type(number) for number in told}, {int})


if __name__ == "__main__":
    unittest.main()

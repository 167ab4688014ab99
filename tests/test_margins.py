"""The margins of a page."""

import unittest

from pagestraight.askew import st_margins
from tests.support import ReadOnlyList, all_dots, drawn, margins, page, some_dots

LARGEST = 4294967295
SIZES = (
    (1, 1), (1, 9), (9, 1), (2, 2), (7, 7), (31, 6), (32, 6), (33, 6), (6, 33), (64, 5), (65, 5), (5, 65), (97, 33),
    (1, 256), (256, 1), (256, 256),
)


def inner_dots(w, h):
    """A scatter with another margin on each side, where there is room for it."""
    return {(c, r) for c, r in some_dots(w, h) if w // 8 <= c < w - w // 5 and h // 6 <= r < h - h // 3}


class HeldAgainstDots(unittest.TestCase):
    def hold(self, most, w, h, dots, behind=0):
        with self.subTest(most=most, w=w, h=h, behind=behind):
            self.assertEqual(st_margins(most, w, h, page(w, h, dots, behind)), [0] + margins(most, w, h, dots))

    def test_ordinary_pages(self):
        for w, h in SIZES:
            for most in (0, 1, 2, 3, h // 2, w // 2, w, h, LARGEST):
                self.hold(most, w, h, some_dots(w, h))
                self.hold(most, w, h, inner_dots(w, h))

    def test_full_pages(self):
        for w, h in SIZES:
            for most in (0, 1, w - 1, w, h - 1, h, 255, 256, LARGEST):
                self.hold(most, w, h, all_dots(w, h))

    def test_an_empty_page_is_all_margin(self):
        for w, h in SIZES:
            for most in (0, 1, LARGEST):
                for behind in (0, 1):
                    self.assertEqual(st_margins(most, w, h, page(w, h, set(), behind)), [0, w, h, w, h])

    def test_a_dot_in_each_corner(self):
        for w, h in SIZES:
            for c in (0, w - 1):
                for r in (0, h - 1):
                    told = st_margins(0, w, h, page(w, h, {(c, r)}, behind=1))
                    self.assertEqual(told, [0, c, r, w - 1 - c, h - 1 - r])
                    self.assertEqual(st_margins(1, w, h, page(w, h, {(c, r)})), [0, w, h, w, h])

    def test_bits_behind_the_last_column_do_not_matter(self):
        for w, h in ((1, 1), (1, 9), (31, 6), (33, 6), (65, 5), (97, 33)):
            for most in (0, 1, 2, w - 1):
                self.hold(most, w, h, some_dots(w, h), behind=1)
                self.hold(most, w, h, inner_dots(w, h), behind=1)


class ByHand(unittest.TestCase):
    PAGE = [
        ".......",
        "...#...",
        "..##...",
        "..###..",
        ".......",
        ".......",
        ".......",
    ]

    def told(self, most, rows, sides):
        w, h, words = drawn(rows)
        self.assertEqual(st_margins(most, w, h, words), [0] + sides)

    def test_the_order_is_left_above_right_below(self):
        self.told(0, self.PAGE, [2, 1, 2, 3])
        self.told(0, ["...", "#..", "...", "...", "..."], [0, 1, 2, 3])

    def test_a_count_that_is_just_reached_is_still_margin(self):
        # Columns have 0 0 2 3 1 0 0 dots, rows 0 1 2 3 0 0 0.
        self.told(1, self.PAGE, [2, 2, 3, 3])
        self.told(2, self.PAGE, [3, 3, 3, 3])
        self.told(3, self.PAGE, [7, 7, 7, 7])
        self.told(LARGEST, self.PAGE, [7, 7, 7, 7])

    def test_rows_may_be_above_most_where_no_column_is(self):
        self.told(1, ["....", ".##.", "...."], [4, 1, 4, 1])
        self.told(1, ["...", ".#.", ".#.", "..."], [1, 4, 1, 4])

    def test_a_full_page_has_no_margin(self):
        self.told(0, ["###", "###"], [0, 0, 0, 0])
        self.told(1, ["###", "###"], [0, 0, 0, 0])
        self.told(2, ["###", "###"], [3, 0, 3, 0])
        self.told(3, ["###", "###"], [3, 2, 3, 2])

    def test_only_what_is_ahead_of_the_first_counts(self):
        self.told(0, ["#.#", "...", "#.#"], [0, 0, 0, 0])
        self.told(0, [".....", ".#.#.", ".....", "....."], [1, 1, 1, 2])

    def test_256_dots(self):
        self.assertEqual(st_margins(255, 256, 256, [LARGEST] * 2048), [0, 0, 0, 0, 0])
        self.assertEqual(st_margins(256, 256, 256, [LARGEST] * 2048), [0, 256, 256, 256, 256])


class HowAnAnswerIsGiven(unittest.TestCase):
    def test_the_list_handed_in_stays_as_it_was(self):
        for w, h in ((7, 7), (33, 6), (97, 33)):
            words = page(w, h, some_dots(w, h), behind=1)
            handed = ReadOnlyList(words)
            st_margins(2, w, h, handed)
            self.assertEqual(list(handed), words)

    def test_a_second_call_answers_as_the_first(self):
        words = page(40, 20, inner_dots(40, 20))
        first = st_margins(1, 40, 20, words)
        kept = list(first)
        first.clear()
        st_margins(0, 20, 40, page(20, 40, some_dots(20, 40)))
        st_margins(0, 0, 20, words)
        self.assertEqual(st_margins(1, 40, 20, words), kept)

    def test_an_answer_is_a_list_of_plain_whole_numbers(self):
        for told in (st_margins(0, 33, 6, page(33, 6, all_dots(33, 6))), st_margins(0, 0, 1, [])):
            self.assertIs(type(told), list)
            self.assertEqual({type(number) for number in told}, {int})


if __name__ == "__main__":
    unittest.main()

"""A page turned by a quarter clockwise."""

import unittest

from pagestraight.askew import st_margins, st_turn, st_upright
from tests.support import ReadOnlyList, all_dots, drawn, page, some_dots, words_wide

LARGEST = 4294967295
SIDES = (1, 31, 32, 33, 64, 65, 256)
SIZES = tuple((w, h) for w in SIDES for h in SIDES)
SMALL_SIZES = ((1, 1), (1, 2), (2, 1), (2, 2), (3, 2), (5, 7), (7, 5), (63, 3), (3, 63), (97, 40))


def turned(w, h, dots):
    return {(h - 1 - r, c) for c, r in dots}


class HeldAgainstDots(unittest.TestCase):
    def hold(self, w, h, dots, behind=0):
        with self.subTest(w=w, h=h, behind=behind):
            told = st_turn(w, h, page(w, h, dots, behind))
            self.assertEqual(told, [0] + page(h, w, turned(w, h, dots)))

    def test_sides_with_each_other(self):
        for w, h in SIZES + SMALL_SIZES:
            self.hold(w, h, some_dots(w, h))

    def test_bits_behind_the_last_column_do_not_matter(self):
        for w, h in SIZES + SMALL_SIZES:
            if w % 32:
                self.hold(w, h, set(), behind=1)
                self.hold(w, h, some_dots(w, h, seed=2), behind=1)

    def test_full_pages_have_0_behind_the_last_column(self):
        for w, h in SIZES + SMALL_SIZES:
            self.hold(w, h, all_dots(w, h), behind=1)

    def test_white_pages(self):
        for w, h in SIZES + SMALL_SIZES:
            self.assertEqual(st_turn(w, h, [0] * (h * words_wide(w))), [0] * (1 + w * words_wide(h)))

    def test_a_dot_in_each_corner(self):
        for w, h in SIZES + SMALL_SIZES:
            right, below = w - 1, h - 1
            corners = (((0, 0), (below, 0)), ((right, 0), (below, right)),
                       ((0, below), (0, 0)), ((right, below), (0, right)))
            for before, after in corners:
                with self.subTest(w=w, h=h, before=before):
                    self.assertEqual(st_turn(w, h, page(w, h, {before})), [0] + page(h, w, {after}))


class Together(unittest.TestCase):
    def test_four_turns_give_the_page_once_more(self):
        for w, h in SIZES + SMALL_SIZES:
            with self.subTest(w=w, h=h):
                dots = some_dots(w, h, seed=7)
                wide, high, words = w, h, page(w, h, dots, behind=1)
                for i in range(4):
                    told = st_turn(wide, high, words)
                    self.assertEqual(told[0], 0)
                    wide, high, words = high, wide, told[1:]
                    self.assertEqual(len(words), high * words_wide(wide))
                self.assertEqual(words, page(w, h, dots))

    def test_two_turns_put_the_page_upside_down(self):
        for w, h in ((5, 7), (33, 31), (65, 3)):
            dots = some_dots(w, h)
            once = st_turn(w, h, page(w, h, dots))[1:]
            self.assertEqual(st_turn(h, w, once), [0] + page(w, h, {(w - 1 - c, h - 1 - r) for c, r in dots}))

    def test_margins_go_round(self):
        w, h, words = drawn([".....", "..#..", ".....", ".....", ".....", "....."])
        self.assertEqual(st_margins(0, w, h, words), [0, 2, 1, 2, 4])
        self.assertEqual(st_margins(0, h, w, st_turn(w, h, words)[1:]), [0, 4, 2, 1, 2])

    def test_rows_become_columns(self):
        w, h, words = drawn(["####", "....", "###."])
        self.assertEqual(st_upright(w, h, words), [0, 25, 1])
        self.assertEqual(st_upright(h, w, st_turn(w, h, words)[1:]), [1, 1, 25])


class ByHand(unittest.TestCase):
    def told(self, before, after):
        w, h, words = drawn(before)
        self.assertEqual(st_turn(w, h, words), [0] + drawn(after)[2])

    def test_a_letter(self):
        self.told(["###.",
                   "#...",
                   "##..",
                   "#..."],
                  ["####",
                   ".#.#",
                   "...#",
                   "...."])

    def test_a_page_that_is_not_square(self):
        self.told(["##.", "..#"], [".#", ".#", "#."])
        self.told([".#", ".#", "#."], ["#..", ".##"])

    def test_the_first_row_becomes_the_last_column(self):
        self.told(["###", "...", "..."], ["..#", "..#", "..#"])
        self.told(["#.#.", "....", "...."], ["..#", "...", "..#", "..."])

    def test_the_first_column_becomes_the_first_row(self):
        self.told(["#..", "#..", "#.."], ["###", "...", "..."])

    def test_one_row_and_one_column(self):
        self.told(["##.#"], ["#", "#", ".", "#"])
        self.told(["#", "#", ".", "#"], ["#.##"])
        self.told(["#"], ["#"])
        self.told(["."], ["."])

    def test_rows_of_more_than_one_word(self):
        # The last of 33 rows comes into column 0, the first into column 32, which is in the second word.
        self.assertEqual(st_turn(1, 33, [1] + [0] * 32), [0, 0, 1])
        self.assertEqual(st_turn(1, 33, [0] * 32 + [1]), [0, 1, 0])
        self.assertEqual(st_turn(1, 33, [0, 1] + [0] * 31), [0, 2147483648, 0])
        self.assertEqual(st_turn(33, 1, [2147483649, 1]), [0, 1] + [0] * 30 + [1, 1])

    def test_bits_behind_the_last_column_do_not_come_in(self):
        self.assertEqual(st_turn(1, 1, [LARGEST]), [0, 1])
        self.assertEqual(st_turn(1, 1, [LARGEST - 1]), [0, 0])
        self.assertEqual(st_turn(2, 3, [LARGEST] * 3), [0, 7, 7])

    def test_the_largest_page(self):
        self.assertEqual(st_turn(256, 256, [LARGEST] * 2048), [0] + [LARGEST] * 2048)


class HowAnAnswerIsGiven(unittest.TestCase):
    def test_the_list_handed_in_stays_as_it_was(self):
        for w, h in ((1, 1), (7, 7), (33, 6), (97, 33)):
            words = page(w, h, some_dots(w, h), behind=1)
            handed = ReadOnlyList(words)
            told = st_turn(w, h, handed)
            self.assertEqual(list(handed), words)
            self.assertIsNot(told, handed)

    def test_a_second_call_answers_as_the_first(self):
        words = page(40, 20, some_dots(40, 20))
        first = st_turn(40, 20, words)
        kept = list(first)
        first.clear()
        st_turn(20, 40, page(20, 40, some_dots(20, 40)))
        st_turn(0, 20, words)
        self.assertEqual(st_turn(40, 20, words), kept)

    def test_an_answer_is_a_list_of_plain_whole_numbers(self):
        for told in (st_turn(1, 1, [1]), st_turn(33, 6, page(33, 6, all_dots(33, 6))), st_turn(0, 1, [])):
            self.assertIs(type(told), list)
            self.assertEqual({type(number) for number in told}, {int})


if __name__ == "__main__":
    unittest.main()

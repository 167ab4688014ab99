"""The shear that makes a page's rows sharpest."""

import unittest

from pagestraight.askew import st_counts, st_sharp, st_straight
from tests.support import ReadOnlyList, all_dots, drawn, page, shear_dots, some_dots, straightest, word

WIDE = 48
HIGH = 40


def lines_of_letters(w, h):
    """Rows of letters four high with three of white between them, well inside the page."""
    return {(c, r) for r in range(8, h - 8) for c in range(w) if r % 7 < 4 and c % 5 != 4}


class HeldAgainstAllSlopes(unittest.TestCase):
    def hold(self, m, d, w, h, dots, behind=0):
        with self.subTest(m=m, d=d, w=w, h=h, behind=behind):
            k, sharp = straightest(m, d, w, h, dots)
            self.assertEqual(st_straight(m, d, w, h, page(w, h, dots, behind)), [0, 1, word(k), 1, sharp])

    def test_ordinary_pages(self):
        for w, h in ((1, 1), (1, 9), (9, 1), (2, 2), (7, 7), (8, 5), (31, 6), (32, 6), (33, 6), (64, 3), (65, 3)):
            for m, d in ((0, 1), (1, 1), (2, 3), (5, 4), (8, 64), (3, 4096)):
                for seed in (1, 2, 3):
                    self.hold(m, d, w, h, some_dots(w, h, seed))

    def test_m_of_64(self):
        for d in (1, 16, 100, 4096):
            self.hold(64, d, 33, 20, some_dots(33, 20))

    def test_full_and_white_pages(self):
        for w, h in ((1, 1), (1, 9), (9, 1), (2, 2), (7, 7), (33, 12)):
            for m, d in ((0, 1), (1, 1), (4, 3), (64, 64)):
                self.hold(m, d, w, h, all_dots(w, h))
                self.hold(m, d, w, h, set())

    def test_bits_behind_the_last_column_do_not_matter(self):
        for w, h in ((1, 9), (31, 6), (33, 6)):
            self.hold(4, 5, w, h, set(), behind=1)
            self.hold(4, 5, w, h, some_dots(w, h), behind=1)

    def test_the_largest_pages(self):
        self.hold(1, 40, 256, 256, some_dots(256, 256, seed=4))
        self.hold(64, 64, 256, 1, some_dots(256, 1, seed=4))
        self.hold(64, 64, 1, 256, some_dots(1, 256, seed=4))

    def test_what_is_told_agrees_with_the_other_calls(self):
        words = page(40, 30, some_dots(40, 30))
        zero, one, k, one_more, sharp = st_straight(20, 32, 40, 30, words)
        self.assertEqual((zero, one, one_more), (0, 1, 1))
        self.assertEqual(st_sharp(st_counts(k, 32, 40, 30, words)[1:]), [0, sharp])
        for other in range(-20, 21):
            counts = st_counts(word(other), 32, 40, 30, words)[1:]
            self.assertLessEqual(st_sharp(counts)[1], sharp)


class Askew(unittest.TestCase):
    def test_a_page_that_is_straight_already(self):
        for m in (0, 1, 64):
            told = st_straight(m, 64, WIDE, HIGH, page(WIDE, HIGH, lines_of_letters(WIDE, HIGH)))
            self.assertEqual(told[:4], [0, 1, 0, 1])

    def test_pages_that_lie_askew_either_way(self):
        # An even width leaves halves that go up for k and for -k; an odd one is turned back to the dot.
        w = WIDE + 1
        straight = st_straight(0, 64, w, HIGH, page(w, HIGH, lines_of_letters(w, HIGH)))[4]
        for k in (2, 3, 6, 10, -2, -3, -6, -10):
            with self.subTest(k=k):
                askew = page(w, HIGH, shear_dots(k, 67, w, HIGH, lines_of_letters(w, HIGH)))
                told = st_straight(12, 67, w, HIGH, askew)
                self.assertEqual(told, [0, 1, word(-k), 1, straight])

    def test_only_slopes_from_minus_m_to_m_are_tried(self):
        w = WIDE + 1
        for k in (-10, 10):
            askew = page(w, HIGH, shear_dots(k, 67, w, HIGH, lines_of_letters(w, HIGH)))
            self.assertEqual(st_straight(10, 67, w, HIGH, askew)[2], word(-k))
            self.assertNotEqual(st_straight(9, 67, w, HIGH, askew)[2], word(-k))

    def test_the_farthest_slopes(self):
        # Two dots 2 columns and 128 rows apart come together by 64 in 1, and by no other shear.
        for k in (-64, 64):
            dots = shear_dots(k, 1, 3, 131, {(0, 65), (2, 65)})
            self.assertEqual(st_straight(64, 1, 3, 131, page(3, 131, dots)), [0, 1, word(-k), 1, 8])
            self.assertEqual(st_straight(63, 1, 3, 131, page(3, 131, dots))[2:], [0, 1, 4])


class ByHand(unittest.TestCase):
    def told(self, m, d, rows, k, sharp):
        w, h, words = drawn(rows)
        self.assertEqual(st_straight(m, d, w, h, words), [0, 1, k, 1, sharp])

    def test_m_of_0_leaves_only_k_of_0(self):
        self.told(0, 1, ["#..", ".#.", "..#"], 0, 0)
        self.told(0, 1, ["###", "...", "###"], 0, 18)

    def test_a_stair_is_straightened(self):
        self.told(1, 1, ["#..", ".#.", "..#"], 4294967295, 18)
        self.told(1, 1, ["..#", ".#.", "#.."], 1, 18)

    def test_of_as_sharp_ones_the_nearest_to_0(self):
        self.told(64, 1, ["...", "...", "..."], 0, 0)
        # A column alone never moves.
        self.told(64, 1, ["#", ".", "#"], 0, 2)
        # By -4 and by -5 in 6 both outer columns move by 1, by -3 only the left one does.
        self.told(5, 6, ["#..", ".#.", "..#"], 4294967292, 18)

    def test_of_k_and_minus_k_that_below_0(self):
        # By -1 and by 1 in 1 the counts are 2, 3, 2, by -2 and by 2 they are 2, 1, 2.
        self.told(1, 1, ["###", "###", "###"], 4294967295, 2)
        self.told(2, 1, ["###", "###", "###"], 4294967295, 2)
        # Of 2 columns by -1 and by 1 the counts are 1, 2, 2, by -2 and by 2 they are 1, 2, 1.
        self.told(1, 1, ["##", "##", "##"], 4294967295, 1)
        self.told(2, 1, ["##", "##", "##"], 4294967294, 2)

    def test_a_full_page(self):
        self.told(1, 1, ["###", "###"], 0, 0)
        self.told(0, 1, ["##", "##"], 0, 0)

    def test_a_single_row_has_no_two_side_by_side(self):
        self.told(64, 1, ["#.###"], 0, 0)


class HowAnAnswerIsGiven(unittest.TestCase):
    def test_the_list_handed_in_stays_as_it_was(self):
        for w, h in ((7, 7), (33, 6), (97, 33)):
            words = page(w, h, some_dots(w, h), behind=1)
            handed = ReadOnlyList(words)
            st_straight(3, 4, w, h, handed)
            self.assertEqual(list(handed), words)

    def test_a_second_call_answers_as_the_first(self):
        words = page(40, 20, some_dots(40, 20))
        first = st_straight(5, 7, 40, 20, words)
        kept = list(first)
        first.clear()
        st_straight(9, 3, 20, 40, page(20, 40, some_dots(20, 40)))
        st_straight(5, 0, 40, 20, words)
        self.assertEqual(st_straight(5, 7, 40, 20, words), kept)

    def test_an_answer_is_a_list_of_plain_whole_numbers(self):
        for told in (st_straight(1, 2, 33, 6, page(33, 6, all_dots(33, 6))), st_straight(65, 1, 1, 1, [])):
            self.assertIs(type(told), list)
            self.assertEqual({type(number) for number in told}, {int})


if __name__ == "__main__":
    unittest.main()

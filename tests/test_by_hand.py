"""Small pages worked out by hand."""

import unittest

from pagestraight.askew import st_roll, st_shear, st_slant
from tests.support import drawn


class ByHand(unittest.TestCase):
    def told(self, call, k, d, before, after):
        w, h, words = drawn(before)
        self.assertEqual(call(k, d, w, h, words), [0] + drawn(after)[2])


class Shear(ByHand):
    def test_columns_move_down_by_a_shear_above_0_and_up_by_one_below(self):
        # The moves are -2, -1, 0, 1, 2.
        self.told(st_shear, 1, 1,
                  [".....", ".....", "#####", ".....", "....."],
                  ["#....", ".#...", "..#..", "...#.", "....#"])

    def test_k_below_0_is_a_word(self):
        self.told(st_shear, 4294967295, 1,
                  [".....", ".....", "#####", ".....", "....."],
                  ["....#", "...#.", "..#..", ".#...", "#...."])

    def test_k_of_0_leaves_the_page(self):
        self.told(st_shear, 0, 7, ["#.#", ".#.", "##."], ["#.#", ".#.", "##."])

    def test_a_half_goes_up(self):
        # Of 2 columns by 1 in 1 a half to the left and to the right: -1/2 becomes 0, 1/2 becomes 1.
        self.told(st_shear, 1, 1, ["..", "##", ".."], ["..", "#.", ".#"])
        self.told(st_shear, 4294967295, 1, ["..", "##", ".."], ["..", ".#", "#."])
        # -3/2, -1/2, 1/2, 3/2 become -1, 0, 1, 2.
        self.told(st_shear, 1, 1,
                  ["....", "####", "....", "...."],
                  ["#...", ".#..", "..#.", "...#"])

    def test_below_0_is_rounded_down(self):
        # -3/4, 0, 3/4 become -1, 0, 1.
        self.told(st_shear, 3, 4, ["...", "###", "..."], ["#..", ".#.", "..#"])
        # -1/4, 0, 1/4 become 0.
        self.told(st_shear, 1, 4, ["...", "###", "..."], ["...", "###", "..."])
        # -1/2, 0, 1/2 become 0, 0, 1.
        self.told(st_shear, 1, 2, ["...", "###", "..."], ["...", "##.", "..#"])

    def test_dots_leave_the_page_and_white_comes_in(self):
        # -1, 0, 1: the left column goes up, the right one down.
        self.told(st_shear, 1, 1, ["###", "###"], ["##.", ".##"])
        self.told(st_shear, 4096, 1, ["###", "###"], [".#.", ".#."])

    def test_the_steepest_shears_empty_all_but_the_middle(self):
        for k in (4096, 4294963200):
            self.told(st_shear, k, 1, ["#####"] * 4, ["..#.."] * 4)

    def test_the_shear_is_of_columns_of_w_not_of_h(self):
        self.told(st_shear, 1, 1, ["...", "###", "...", "...", "..."],
                  ["#..", ".#.", "..#", "...", "..."])


class Slant(ByHand):
    def test_rows_move_right_by_a_shear_above_0_and_left_by_one_below(self):
        self.told(st_slant, 1, 1,
                  ["..#..", "..#..", "..#..", "..#..", "..#.."],
                  ["#....", ".#...", "..#..", "...#.", "....#"])

    def test_k_below_0_is_a_word(self):
        self.told(st_slant, 4294967295, 1,
                  ["..#..", "..#..", "..#..", "..#..", "..#.."],
                  ["....#", "...#.", "..#..", ".#...", "#...."])

    def test_k_of_0_leaves_the_page(self):
        self.told(st_slant, 0, 7, ["#.#", ".#.", "##."], ["#.#", ".#.", "##."])

    def test_a_half_goes_up(self):
        self.told(st_slant, 1, 1, [".#.", ".#."], [".#.", "..#"])
        self.told(st_slant, 4294967295, 1, [".#.", ".#."], ["..#", ".#."])

    def test_below_0_is_rounded_down(self):
        self.told(st_slant, 3, 4, [".#.", ".#.", ".#."], ["#..", ".#.", "..#"])
        self.told(st_slant, 1, 4, [".#.", ".#.", ".#."], [".#.", ".#.", ".#."])
        self.told(st_slant, 1, 2, [".#.", ".#.", ".#."], [".#.", ".#.", "..#"])

    def test_dots_leave_the_page_and_white_comes_in(self):
        self.told(st_slant, 1, 1, ["##", "##", "##"], ["#.", "##", ".#"])
        for k in (4096, 4294963200):
            self.told(st_slant, k, 1, ["####"] * 3, ["....", "####", "...."])

    def test_the_shear_is_of_rows_of_h_not_of_w(self):
        self.told(st_slant, 1, 1, [".#...", ".#...", ".#..."], ["#....", ".#...", "..#.."])

    def test_dots_cross_from_word_to_word(self):
        # Rows of 2 words; -1, 0, 1.
        self.assertEqual(st_slant(1, 1, 40, 3, [0, 1, 0, 1, 2147483648, 0]),
                         [0, 2147483648, 0, 0, 1, 0, 1])

    def test_bits_behind_the_last_column_do_not_come_in(self):
        # Columns 3 and on are no columns of a page 3 wide.
        self.assertEqual(st_slant(1, 1, 3, 3, [4294967288, 4294967288, 4294967288]), [0, 0, 0, 0])
        self.assertEqual(st_slant(0, 1, 3, 1, [4294967295]), [0, 7])


class Roll(ByHand):
    def test_columns_move_as_by_a_shear(self):
        self.told(st_roll, 1, 1,
                  [".....", ".....", "#####", ".....", "....."],
                  ["#....", ".#...", "..#..", "...#.", "....#"])

    def test_dots_come_back_on_the_other_side(self):
        # -1, 0, 1.
        self.told(st_roll, 1, 1, ["###", "...", "..."], [".#.", "..#", "#.."])
        self.told(st_roll, 4294967295, 1, ["###", "...", "..."], [".#.", "#..", "..#"])

    def test_dots_go_round_more_than_once(self):
        # -4096, 0, 4096; 4096 is 1 behind a multiple of 3.
        self.told(st_roll, 4096, 1, ["###", "...", "..."], [".#.", "..#", "#.."])
        self.told(st_roll, 4294963200, 1, ["###", "...", "..."], [".#.", "#..", "..#"])

    def test_a_row_alone_stays(self):
        self.told(st_roll, 4096, 1, ["#.##."], ["#.##."])

    def test_a_half_goes_up(self):
        self.told(st_roll, 1, 1, ["##", "..", ".."], ["#.", ".#", ".."])
        self.told(st_roll, 4294967295, 1, ["##", "..", ".."], [".#", "#.", ".."])

    def test_below_0_is_rounded_down(self):
        self.told(st_roll, 3, 4, ["###", "...", "..."], [".#.", "..#", "#.."])
        self.told(st_roll, 1, 2, ["###", "...", "..."], ["##.", "..#", "..."])

    def test_k_of_0_leaves_the_page(self):
        self.told(st_roll, 0, 7, ["#.#", ".#.", "##."], ["#.#", ".#.", "##."])


if __name__ == "__main__":
    unittest.main()

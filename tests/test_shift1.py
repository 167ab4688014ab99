"""The shear of one number, as a word."""

import unittest

from pagestraight.askew import st_shear, st_shift1
from tests.support import move, page, word

LARGEST = 4294967295
KS = (
    0, 1, 2, 3, 7, 4096, 4097, 65535, 2147483646, 2147483647,
    -1, -2, -3, -7, -4096, -4097, -65535, -2147483647, -2147483648,
)
DS = (0, 1, 2, 3, 4, 7, 4095, 4096, 4097, 2147483647, 2147483648, LARGEST - 1, LARGEST)
WS = (0, 1, 2, 3, 8, 255, 256, 257, 2147483648, LARGEST - 1, LARGEST)


def columns_to_ask(w):
    return sorted({0, 1, w // 2, max(w - 1, 0), w, min(w + 1, LARGEST), 2147483648, LARGEST})


class HeldAgainstQuotients(unittest.TestCase):
    def test_all_ranges_with_each_other(self):
        for k in KS:
            for d in DS:
                for w in WS:
                    for c in columns_to_ask(w):
                        asked = word(move(k, d or 1, w or 1, c))
                        if st_shift1(w, word(k), d, c) != [asked]:
                            self.fail(f"w {w}, k {k}, d {d}, c {c}: {st_shift1(w, word(k), d, c)}, not {asked}")

    def test_it_is_the_move_of_a_column_by_st_shear(self):
        h = 41
        for w in (1, 2, 7, 8, 33):
            for k, d in ((0, 1), (1, 1), (-1, 1), (1, 2), (-1, 2), (3, 4), (-3, 4), (-5, 7), (4096, 4096), (-97, 4096)):
                sheared = st_shear(word(k), d, w, h, page(w, h, {(c, 20) for c in range(w)}))
                dots = {(c, 20 + signed(st_shift1(w, word(k), d, c)[0])) for c in range(w)}
                with self.subTest(w=w, k=k, d=d):
                    self.assertEqual(sheared, [0] + page(w, h, dots))


def signed(number):
    return (number + 2147483648) % 4294967296 - 2147483648


class ByHand(unittest.TestCase):
    def told(self, w, k, d, moves):
        told = [st_shift1(w, word(k), d, c) for c in range(len(moves))]
        self.assertEqual(told, [[word(one)] for one in moves])

    def test_k_of_0_moves_nothing(self):
        for w in (0, 1, 256, LARGEST):
            for d in (0, 1, 4096, LARGEST):
                for c in (0, 1, 255, LARGEST):
                    self.assertEqual(st_shift1(w, 0, d, c), [0])

    def test_k_above_and_below_0(self):
        self.told(5, 1, 1, [-2, -1, 0, 1, 2])
        self.told(5, -1, 1, [2, 1, 0, -1, -2])
        self.told(5, 4096, 1, [-8192, -4096, 0, 4096, 8192])
        self.assertEqual(st_shift1(5, 1, 1, 0), [4294967294])
        self.assertEqual(st_shift1(5, LARGEST, 1, 4), [4294967294])

    def test_a_half_goes_up_also_below_0(self):
        self.told(2, 1, 1, [0, 1])
        self.told(2, -1, 1, [1, 0])
        self.told(4, 1, 1, [-1, 0, 1, 2])
        self.told(4, -1, 1, [2, 1, 0, -1])
        self.told(3, 1, 2, [0, 0, 1])

    def test_below_0_is_rounded_down(self):
        self.told(3, 3, 4, [-1, 0, 1])
        self.told(3, -3, 4, [1, 0, -1])
        self.told(3, 1, 4, [0, 0, 0])
        self.told(3, 5, 4, [-1, 0, 1])

    def test_w_of_0_is_1(self):
        for k in (1, 5, LARGEST):
            for d in (1, 3, LARGEST):
                for c in (0, 1, 9, LARGEST):
                    self.assertEqual(st_shift1(0, k, d, c), st_shift1(1, k, d, c))
        # By c itself, not by c and a half.
        self.told(0, 1, 1, [0, 1, 2, 3])
        self.told(0, 1, 2, [0, 1, 1, 2])

    def test_d_of_0_is_1(self):
        self.told(5, 1, 0, [-2, -1, 0, 1, 2])
        self.told(2, 1, 0, [0, 1])
        self.told(0, 3, 0, [0, 3, 6])

    def test_c_beyond_w(self):
        self.told(2, 1, 1, [0, 1, 2, 3, 4])
        self.told(3, -2, 1, [2, 0, -2, -4, -6])
        self.assertEqual(st_shift1(1, 1, 1, LARGEST), [LARGEST])
        self.assertEqual(st_shift1(3, 1, 1, LARGEST), [LARGEST - 1])
        self.assertEqual(st_shift1(1, LARGEST, 1, LARGEST), [1])

    def test_the_farthest_k(self):
        self.assertEqual(st_shift1(1, 2147483648, 1, 1), [2147483648])
        self.assertEqual(st_shift1(1, 2147483647, 1, 1), [2147483647])
        self.assertEqual(st_shift1(3, 2147483648, 1, 0), [2147483648])
        self.assertEqual(st_shift1(3, 2147483647, 1, 0), [2147483649])
        # -1/2 and 1/2 of these.
        self.assertEqual(st_shift1(2, 2147483648, 1, 0), [1073741824])
        self.assertEqual(st_shift1(2, 2147483648, 1, 1), [3221225472])
        self.assertEqual(st_shift1(2, 2147483647, 1, 0), [3221225473])
        self.assertEqual(st_shift1(2, 2147483647, 1, 1), [1073741824])

    def test_what_is_left_of_moves_beyond_a_word(self):
        self.assertEqual(st_shift1(1, 2, 1, 2147483648), [0])
        self.assertEqual(st_shift1(1, 3, 1, 2147483648), [2147483648])
        # -2^31 times 2^32 - 1, and 2^31 - 1 times it.
        self.assertEqual(st_shift1(1, 2147483648, 1, LARGEST), [2147483648])
        self.assertEqual(st_shift1(1, 2147483647, 1, LARGEST), [2147483649])

    def test_the_largest_w(self):
        # The middle is 2147483647.
        self.assertEqual(st_shift1(LARGEST, 1, 1, 0), [2147483649])
        self.assertEqual(st_shift1(LARGEST, 1, 1, 2147483647), [0])
        self.assertEqual(st_shift1(LARGEST, 1, 1, LARGEST - 1), [2147483647])
        self.assertEqual(st_shift1(LARGEST, 1, 1, LARGEST), [2147483648])

    def test_the_largest_d(self):
        self.assertEqual(st_shift1(1, 1, LARGEST, 2147483647), [0])
        self.assertEqual(st_shift1(1, 1, LARGEST, 2147483648), [1])
        self.assertEqual(st_shift1(1, 1, LARGEST, LARGEST), [1])
        self.assertEqual(st_shift1(1, LARGEST, LARGEST, 2147483647), [0])
        self.assertEqual(st_shift1(1, LARGEST, LARGEST, 2147483648), [LARGEST])
        self.assertEqual(st_shift1(1, LARGEST, LARGEST, LARGEST), [LARGEST])

    def test_d_of_4096_and_w_of_256(self):
        self.assertEqual(st_shift1(256, 4096, 4096, 0), [word(-127)])
        self.assertEqual(st_shift1(256, 4096, 4096, 255), [128])
        self.assertEqual(st_shift1(256, word(-4096), 4096, 0), [128])
        self.assertEqual(st_shift1(256, 32, 4096, 0), [word(-1)])
        self.assertEqual(st_shift1(256, 32, 4096, 128), [0])


class HowAnAnswerIsGiven(unittest.TestCase):
    def test_a_second_call_answers_as_the_first(self):
        first = st_shift1(5, 1, 1, 0)
        first.clear()
        st_shift1(0, 0, 0, 0)
        st_shift1(LARGEST, LARGEST, LARGEST, LARGEST)
        self.assertEqual(st_shift1(5, 1, 1, 0), [4294967294])

    def test_an_answer_is_one_plain_word(self):
        for number in (0, 1, 2147483648, LARGEST):
            told = st_shift1(number, number, number, number)
            self.assertIs(type(told), list)
            self.assertEqual([type(one) for one in told], [int])
            self.assertTrue(0 <= told[0] <= LARGEST)


if __name__ == "__main__":
    unittest.main()

"""Numbers out of their ranges are refused, those at the ends of them are not."""

import unittest

from pagestraight.askew import (
    st_counts, st_margins, st_roll, st_shear, st_slant, st_straight, st_turn, st_upright,
)
from tests.support import ReadOnlyList, words_wide

CALLS = (st_shear, st_slant, st_roll, st_counts)
SIDES_ALONE = (st_upright, st_turn)
LONGEST_LIST = 2313

WRONG_K = (4097, 4098, 2147483647, 2147483648, 4294963198, 4294963199)
WRONG_M = (65, 66, 4096, 2147483648, 4294963200, 4294967232, 4294967295)
WRONG_D = (0, 4097, 4294967295)
WRONG_SIDES = (0, 257, 258, 4294967295)
GOOD_M = (0, 1, 64)
GOOD = ((1, 1, 1, 1), (4096, 4096, 256, 256), (4294963200, 1, 40, 7), (0, 3, 33, 256))


def lists_to_hand_in(w, h):
    lists = [[]]
    length = h * words_wide(w)
    if length <= LONGEST_LIST:
        lists.append([0] * length)
        lists.append([4294967295] * length)
    return [ReadOnlyList(x) for x in lists]


class Refusals(unittest.TestCase):
    def refused(self, k, d, w, h):
        for call in CALLS:
            for x in lists_to_hand_in(w, h):
                with self.subTest(call=call.__name__, k=k, d=d, w=w, h=h, n=len(x)):
                    self.assertEqual(call(k, d, w, h, x), [-2])

    def test_k(self):
        for k in WRONG_K:
            for good in GOOD:
                self.refused(k, *good[1:])

    def test_d(self):
        for d in WRONG_D:
            for k, good_d, w, h in GOOD:
                self.refused(k, d, w, h)

    def test_w(self):
        for w in WRONG_SIDES:
            for k, d, good_w, h in GOOD:
                self.refused(k, d, w, h)

    def test_h(self):
        for h in WRONG_SIDES:
            for k, d, w, good_h in GOOD:
                self.refused(k, d, w, h)

    def test_several_at_once(self):
        self.refused(4097, 0, 257, 257)
        self.refused(0, 0, 0, 0)
        self.refused(4294967295, 4294967295, 4294967295, 4294967295)

    def test_the_ends_of_the_ranges_are_not_refused(self):
        for call in CALLS:
            for k in (0, 1, 4096, 4294963200, 4294967295):
                for d in (1, 4096):
                    for w, h in ((1, 1), (1, 256), (256, 1)):
                        with self.subTest(call=call.__name__, k=k, d=d, w=w, h=h):
                            length = h * words_wide(w)
                            told = h if call is st_counts else length
                            self.assertEqual(call(k, d, w, h, [0] * length), [0] * (1 + told))


class RefusalsOfStraight(unittest.TestCase):
    def refused(self, m, d, w, h):
        for x in lists_to_hand_in(w, h):
            with self.subTest(m=m, d=d, w=w, h=h, n=len(x)):
                self.assertEqual(st_straight(m, d, w, h, x), [-2])

    def test_m(self):
        for m in WRONG_M:
            for k, d, w, h in GOOD:
                self.refused(m, d, w, h)

    def test_d(self):
        for d in WRONG_D:
            for m in GOOD_M:
                for k, good_d, w, h in GOOD:
                    self.refused(m, d, w, h)

    def test_w(self):
        for w in WRONG_SIDES:
            for m in GOOD_M:
                for k, d, good_w, h in GOOD:
                    self.refused(m, d, w, h)

    def test_h(self):
        for h in WRONG_SIDES:
            for m in GOOD_M:
                for k, d, w, good_h in GOOD:
                    self.refused(m, d, w, h)

    def test_several_at_once(self):
        self.refused(65, 0, 257, 257)
        self.refused(4294967295, 4294967295, 4294967295, 4294967295)

    def test_the_ends_of_the_ranges_are_not_refused(self):
        for m in GOOD_M:
            for d in (1, 4096):
                for w, h in ((1, 1), (1, 256), (256, 1)):
                    with self.subTest(m=m, d=d, w=w, h=h):
                        length = h * words_wide(w)
                        self.assertEqual(st_straight(m, d, w, h, [0] * length), [0, 1, 0, 1, 0])


class RefusalsOfMargins(unittest.TestCase):
    def refused(self, w, h):
        for most in (0, 1, 256, 4294967295):
            for x in lists_to_hand_in(w, h):
                with self.subTest(most=most, w=w, h=h, n=len(x)):
                    self.assertEqual(st_margins(most, w, h, x), [-2])

    def test_w(self):
        for w in WRONG_SIDES:
            for h in (1, 40, 256):
                self.refused(w, h)

    def test_h(self):
        for h in WRONG_SIDES:
            for w in (1, 40, 256):
                self.refused(w, h)

    def test_both_at_once(self):
        self.refused(0, 0)
        self.refused(257, 257)
        self.refused(0, 4294967295)
        self.refused(4294967295, 4294967295)

    def test_the_ends_of_the_ranges_are_not_refused(self):
        for w, h in ((1, 1), (1, 256), (256, 1), (256, 256)):
            for most in (0, 4294967295):
                with self.subTest(most=most, w=w, h=h):
                    self.assertEqual(st_margins(most, w, h, [0] * (h * words_wide(w))), [0, w, h, w, h])


class RefusalsOfSidesAlone(unittest.TestCase):
    def refused(self, w, h):
        for call in SIDES_ALONE:
            for x in lists_to_hand_in(w, h):
                with self.subTest(call=call.__name__, w=w, h=h, n=len(x)):
                    self.assertEqual(call(w, h, x), [-2])

    def test_w(self):
        for w in WRONG_SIDES:
            for h in (1, 40, 255, 256):
                self.refused(w, h)

    def test_h(self):
        for h in WRONG_SIDES:
            for w in (1, 40, 255, 256):
                self.refused(w, h)

    def test_both_at_once(self):
        for w in WRONG_SIDES:
            for h in WRONG_SIDES:
                self.refused(w, h)

    def test_the_ends_of_the_ranges_are_not_refused(self):
        for call in SIDES_ALONE:
            for w, h in ((1, 1), (1, 256), (256, 1), (256, 256)):
                with self.subTest(call=call.__name__, w=w, h=h):
                    self.assertEqual(call(w, h, [0] * (h * words_wide(w)))[0], 0)


if __name__ == "__main__":
    unittest.main()

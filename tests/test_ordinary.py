"""Ordinary pages and the edges of the ranges, each call held against shears told dot by dot."""

import unittest

from pagestraight.askew import st_roll, st_shear, st_slant
from tests.support import (
    ReadOnlyList, all_dots, page, roll_dots, shear_dots, slant_dots, some_dots, word,
)

CALLS = ((st_shear, shear_dots), (st_slant, slant_dots), (st_roll, roll_dots))

SIZES = (
    (1, 1), (1, 9), (9, 1), (2, 2), (7, 7), (8, 5), (5, 8), (31, 6), (32, 6), (33, 6),
    (32, 32), (63, 4), (64, 4), (65, 4), (4, 65), (70, 40), (40, 70), (97, 33),
)

SLOPES = (
    (0, 1), (0, 4096), (1, 1), (-1, 1), (1, 2), (-1, 2), (1, 3), (-2, 3), (3, 4), (-3, 4),
    (5, 64), (-7, 100), (7, 2), (-9, 2), (40, 1), (-40, 1), (1, 4096), (-1, 4096),
    (4095, 4096), (4096, 4096), (-4096, 4096), (4096, 1), (-4096, 1),
)

EDGE_SIZES = ((1, 1), (1, 256), (256, 1), (256, 256))
EDGE_SLOPES = ((0, 1), (1, 4096), (-1, 1), (-4096, 4096), (97, 4096), (4096, 1), (-4096, 1))


class HeldAgainstDots(unittest.TestCase):
    def hold(self, k, d, w, h, dots, behind=0):
        for call, moved in CALLS:
            with self.subTest(call=call.__name__, k=k, d=d, w=w, h=h, behind=behind):
                asked = page(w, h, moved(k, d, w, h, dots))
                told = call(word(k), d, w, h, page(w, h, dots, behind))
                self.assertEqual(told, [0] + asked)

    def test_ordinary_pages(self):
        for w, h in SIZES:
            dots = some_dots(w, h)
            for k, d in SLOPES:
                self.hold(k, d, w, h, dots)

    def test_full_pages(self):
        for w, h in SIZES:
            for k, d in ((0, 1), (1, 3), (-3, 4), (2, 1)):
                self.hold(k, d, w, h, all_dots(w, h))

    def test_white_pages(self):
        for w, h in SIZES:
            for k, d in ((0, 1), (1, 3), (-3, 4), (2, 1)):
                self.hold(k, d, w, h, set())

    def test_bits_behind_the_last_column_do_not_matter(self):
        for w, h in ((1, 1), (1, 9), (7, 7), (31, 6), (33, 6), (63, 4), (65, 4), (97, 33)):
            for k, d in ((0, 1), (1, 3), (-3, 4), (5, 1), (-5, 1)):
                self.hold(k, d, w, h, set(), behind=1)
                self.hold(k, d, w, h, some_dots(w, h), behind=1)

    def test_the_smallest_and_the_largest_pages(self):
        for w, h in EDGE_SIZES:
            dots = some_dots(w, h, seed=5)
            for k, d in EDGE_SLOPES:
                self.hold(k, d, w, h, dots)

    def test_every_corner_of_the_ranges(self):
        for w, h in ((1, 3), (3, 1), (35, 37)):
            dots = some_dots(w, h, seed=3)
            for k in (4096, 4095, 1, 0, -1, -4095, -4096):
                for d in (1, 2, 4095, 4096):
                    self.hold(k, d, w, h, dots)


class HowAnAnswerIsGiven(unittest.TestCase):
    def test_the_list_handed_in_stays_as_it_was(self):
        for w, h in ((7, 7), (33, 6), (97, 33)):
            words = page(w, h, some_dots(w, h), behind=1)
            for call, moved in CALLS:
                handed = ReadOnlyList(words)
                told = call(word(-3), 4, w, h, handed)
                self.assertEqual(list(handed), words)
                self.assertIsNot(told, handed)

    def test_a_second_call_answers_as_the_first(self):
        w, h = 40, 20
        words = page(w, h, some_dots(w, h))
        for call, moved in CALLS:
            first = call(5, 7, w, h, words)
            kept = list(first)
            first.clear()
            call(word(-5), 3, h, w, page(h, w, some_dots(h, w)))
            call(1, 0, w, h, words)
            self.assertEqual(call(5, 7, w, h, words), kept)

    def test_an_answer_is_a_list_of_plain_whole_numbers(self):
        for call, moved in CALLS:
            for w, h in ((1, 1), (33, 6)):
                told = call(1, 2, w, h, page(w, h, all_dots(w, h)))
                self.assertIs(type(told), list)
                self.assertEqual({type(number) for number in told}, {int})
            refused = call(1, 0, 1, 1, [])
            self.assertIs(type(refused), list)
            self.assertEqual([type(number) for number in refused], [int])


if __name__ == "__main__":
    unittest.main()

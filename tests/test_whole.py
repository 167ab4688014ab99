"""What holds for all fourteen calls."""

import builtins
import contextlib
import copy
import inspect
import io
import sys
import unittest
from unittest import mock

from pagestraight import askew
from tests.support import ReadOnlyList, all_dots, page, some_dots, word, words_wide

LARGEST = 4294967295
NUMBERS = [7, 0, 0, 3, 9, 9, 2, 0, 5]
FULL_ROW = [65535, 0] * 2048
SCATTER = page(37, 21, some_dots(37, 21), behind=1)
FULL_PAGE = [LARGEST] * 2048
TOO_MANY = [1] * 4097

# An ordinary call, one at the ends of the ranges, and what is refused, of each call that can refuse.
ANSWERED = {
    "st_shear": ((word(-3), 4, 37, 21, SCATTER), (4096, 4096, 256, 256, FULL_PAGE)),
    "st_slant": ((word(-3), 4, 37, 21, SCATTER), (4096, 4096, 256, 256, FULL_PAGE)),
    "st_roll": ((word(-3), 4, 37, 21, SCATTER), (word(-4096), 1, 256, 256, FULL_PAGE)),
    "st_counts": ((word(-3), 4, 37, 21, SCATTER), (word(-4096), 4096, 256, 256, FULL_PAGE)),
    "st_straight": ((5, 20, 37, 21, SCATTER), (64, 4096, 256, 16, FULL_PAGE[:128])),
    "st_sharp": ((NUMBERS,), ([],), (FULL_ROW,)),
    "st_gaps": ((2, NUMBERS), (0, []), (0, FULL_ROW), (LARGEST, FULL_ROW)),
    "st_bands": ((2, 2, NUMBERS), (0, 0, []), (0, 1, FULL_ROW), (LARGEST, LARGEST, FULL_ROW)),
    "st_margins": ((9, 37, 21, SCATTER), (LARGEST, 256, 256, FULL_PAGE)),
    "st_smooth": ((1, NUMBERS), (0, []), (4096, [LARGEST] * 4096)),
    "st_hills": ((NUMBERS,), ([],), (FULL_ROW,)),
    "st_upright": ((37, 21, SCATTER), (256, 256, FULL_PAGE)),
    "st_turn": ((37, 21, SCATTER), (256, 256, FULL_PAGE)),
    "st_shift1": ((37, word(-3), 4, 5), (0, 0, 0, 0), (LARGEST,) * 4, (1, 2147483648, 1, LARGEST)),
}
REFUSED = {
    "st_shear": ((4097, 4, 37, 21, SCATTER), (1, 0, 37, 21, SCATTER), (1, 1, 257, 21, []), (1, 1, 37, 0, [])),
    "st_slant": ((4097, 4, 37, 21, SCATTER), (1, 0, 37, 21, SCATTER), (1, 1, 257, 21, []), (1, 1, 37, 0, [])),
    "st_roll": ((4097, 4, 37, 21, SCATTER), (1, 0, 37, 21, SCATTER), (1, 1, 257, 21, []), (1, 1, 37, 0, [])),
    "st_counts": ((4097, 4, 37, 21, SCATTER), (1, 0, 37, 21, SCATTER), (1, 1, 257, 21, []), (1, 1, 37, 0, [])),
    "st_straight": ((65, 4, 37, 21, SCATTER), (1, 4097, 37, 21, SCATTER), (1, 1, 0, 21, []), (1, 1, 37, 257, [])),
    "st_sharp": ((TOO_MANY,),),
    "st_gaps": ((0, TOO_MANY),),
    "st_bands": ((0, 0, TOO_MANY),),
    "st_margins": ((0, 257, 21, []), (0, 37, 0, [])),
    "st_smooth": ((4097, NUMBERS), (0, TOO_MANY)),
    "st_hills": ((TOO_MANY,),),
    "st_upright": ((257, 21, []), (37, 0, [])),
    "st_turn": ((257, 21, []), (37, 0, [])),
    "st_shift1": (),
}
PAGES_TOLD = ("st_shear", "st_slant", "st_roll", "st_turn")


def handed_in(arguments):
    return [ReadOnlyList(one) if isinstance(one, list) else one for one in arguments]


def answer(name, arguments):
    return getattr(askew, name)(*handed_in(arguments))


def calls(*tables):
    return [(name, arguments) for table in tables for name in table for arguments in table[name]]


class AllCalls(unittest.TestCase):
    def test_there_are_fourteen(self):
        names = sorted(name for name in vars(askew) if name.startswith("st_"))
        self.assertEqual(len(names), 14)
        self.assertEqual(sorted(ANSWERED), names)
        self.assertEqual(sorted(REFUSED), names)

    def test_an_answer_is_a_list_of_plain_whole_numbers_from_0_on(self):
        for name, arguments in calls(ANSWERED):
            with self.subTest(name=name):
                told = answer(name, arguments)
                self.assertIs(type(told), list)
                self.assertEqual({type(number) for number in told}, {int})
                self.assertGreaterEqual(min(told), 0)
                self.assertLess(len(told), 1000000)
                # How sharp 4096 numbers are may be more than a word, and is told whole.
                if name != "st_sharp":
                    self.assertLessEqual(max(told), LARGEST)

    def test_a_refusal_is_minus_2_alone(self):
        for name, arguments in calls(REFUSED):
            with self.subTest(name=name):
                told = answer(name, arguments)
                self.assertIs(type(told), list)
                self.assertEqual(told, [-2])
                self.assertIs(type(told[0]), int)

    def test_what_is_handed_in_stays_as_it_was(self):
        for name, arguments in calls(ANSWERED, REFUSED):
            with self.subTest(name=name):
                handed = copy.deepcopy(arguments)
                told = getattr(askew, name)(*handed)
                self.assertEqual(handed, arguments)
                told.clear()
                self.assertEqual(handed, arguments)
                self.assertEqual(answer(name, arguments), getattr(askew, name)(*handed))

    def test_nothing_is_kept_from_one_call_to_the_next(self):
        every = calls(ANSWERED, REFUSED)
        kept = {name: value for name, value in vars(askew).items() if not name.startswith("__")}
        first = [answer(name, arguments) for name, arguments in every]
        backward = [answer(name, arguments) for name, arguments in reversed(every)]
        self.assertEqual(list(reversed(backward)), first)
        self.assertEqual({name: value for name, value in vars(askew).items() if not name.startswith("__")}, kept)
        for name, value in kept.items():
            self.assertTrue(type(value) is int or inspect.isfunction(value), name)

    def test_nothing_is_printed_read_or_imported(self):
        def refuse(*args, **kwargs):
            raise AssertionError("the program prints, reads and imports nothing")

        out, err = io.StringIO(), io.StringIO()
        every = calls(ANSWERED, REFUSED)
        with contextlib.redirect_stdout(out), contextlib.redirect_stderr(err):
            with mock.patch.object(builtins, "open", refuse), mock.patch.object(builtins, "input", refuse):
                with mock.patch.object(builtins, "__import__", refuse):
                    for name, arguments in every:
                        getattr(askew, name)(*arguments)
        self.assertEqual((out.getvalue(), err.getvalue()), ("", ""))

    def test_calls_are_not_nested_deep(self):
        limit = sys.getrecursionlimit()
        every = calls(ANSWERED, REFUSED)
        sys.setrecursionlimit(len(inspect.stack(0)) + 40)
        try:
            for name, arguments in every:
                getattr(askew, name)(*arguments)
        finally:
            sys.setrecursionlimit(limit)


class AllPagesThatAreTold(unittest.TestCase):
    def test_bits_behind_the_last_column_are_0_and_do_not_matter(self):
        for w, h in ((1, 1), (31, 5), (33, 5), (5, 33), (65, 31)):
            for dots in (set(), some_dots(w, h), all_dots(w, h)):
                for name in PAGES_TOLD:
                    slope = () if name == "st_turn" else (word(-2), 3)
                    wide, high = (h, w) if name == "st_turn" else (w, h)
                    with self.subTest(name=name, w=w, h=h):
                        told = answer(name, slope + (w, h, page(w, h, dots, behind=1)))
                        self.assertEqual(told, answer(name, slope + (w, h, page(w, h, dots))))
                        self.assertEqual(len(told), 1 + high * words_wide(wide))
                        for last in told[words_wide(wide)::words_wide(wide)]:
                            self.assertLess(last, 1 << (wide - 1) % 32 + 1)


if __name__ == "__main__":
    unittest.main()

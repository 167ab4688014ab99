"""Pages as sets of dots, and what the calls tell of them told once more, dot by dot, to hold the program against."""

import functools
import math
import re
from fractions import Fraction

WORD_LIMIT = 2 ** 32


class ReadOnlyList(list):
    """A list that can't be changed, not for a while either."""

    def refuse(self, *args, **kwargs):
        raise AssertionError("what is handed in is not changed")

    __setitem__ = __delitem__ = __iadd__ = __imul__ = refuse
    append = extend = insert = pop = remove = clear = reverse = sort = refuse


def word(number):
    return number % WORD_LIMIT


def words_wide(w):
    return -(-w // 32)


def page(w, h, dots, behind=0):
    """The list of words of a page; behind=1 fills the bits behind the last column."""
    words = []
    for r in range(h):
        row = sum(1 << c for c in range(w) if (c, r) in dots)
        if behind:
            row |= (1 << 32 * words_wide(w)) - (1 << w)
        words.extend((row >> 32 * i) % WORD_LIMIT for i in range(words_wide(w)))
    return words


def drawn(rows):
    """A page drawn as texts, '#' is a dot: its w, h and words."""
    w, h = len(rows[0]), len(rows)
    dots = {(c, r) for r in range(h) for c in range(w) if rows[r][c] == "#"}
    return w, h, page(w, h, dots)


def some_dots(w, h, seed=1):
    """A scatter of about half of all places, always the same for the same numbers."""
    dots, state = set(), seed
    for r in range(h):
        for c in range(w):
            state = (state * 1103515245 + 12345) % 2 ** 31
            if state >> 20 & 1:
                dots.add((c, r))
    return dots


def all_dots(w, h):
    return {(c, r) for r in range(h) for c in range(w)}


@functools.lru_cache(maxsize=None)
def move(k, d, w, c):
    """The nearest whole number to k / d times the distance from the middle, a half up."""
    return math.floor(Fraction(k, d) * (c - Fraction(w - 1, 2)) + Fraction(1, 2))


def shear_dots(k, d, w, h, dots):
    return {(c, r + move(k, d, w, c)) for c, r in dots}


def slant_dots(k, d, w, h, dots):
    return {(c + move(k, d, h, r), r) for c, r in dots}


def roll_dots(k, d, w, h, dots):
    return {(c, (r + move(k, d, w, c)) % h) for c, r in dots}


def drawn_numbers(most, numbers):
    """A row of numbers as a text: '.' isn't above most, '#' is."""
    return "".join("#" if number > most else "." for number in numbers)


def told_pieces(pieces):
    begins = [piece.start() for piece in pieces]
    lengths = [len(piece.group()) for piece in pieces]
    return [len(pieces), len(pieces)] + begins + [len(pieces)] + lengths


def gaps(most, numbers):
    return told_pieces(list(re.finditer(r"\.+", drawn_numbers(most, numbers))))


def bands(most, least, numbers):
    cut = re.sub(r"\.+", lambda gap: " " * len(gap.group()) if len(gap.group()) >= least else gap.group(),
                 drawn_numbers(most, numbers))
    return told_pieces(list(re.finditer(r"[^ ]+", cut)))


def counts_of_rows(w, h, dots):
    return [sum((c, r) in dots for c in range(w)) for r in range(h)]


def counts_of_columns(w, h, dots):
    return [sum((c, r) in dots for r in range(h)) for c in range(w)]


def margins(most, w, h, dots):
    filled = [c for c, count in enumerate(counts_of_columns(w, h, dots)) if count > most]
    written = [r for r, count in enumerate(counts_of_rows(w, h, dots)) if count > most]
    return [min(filled, default=w), min(written, default=h),
            w - 1 - max(filled, default=-1), h - 1 - max(written, default=-1)]


def how_sharp(numbers):
    return sum(abs(one - other) ** 2 for one, other in zip(numbers, numbers[1:]))


def straightest(m, d, w, h, dots):
    """The k of the sharpest counts, and how sharp they are: all k are ranked by the document's words."""
    sharp = {k: how_sharp(counts_of_rows(w, h, shear_dots(k, d, w, h, dots))) for k in range(-m, m + 1)}
    best = min(sharp, key=lambda k: (-sharp[k], abs(k), k))
    return best, sharp[best]

"""The calls on a page: a list of h rows of words of 32 bits, row behind row, 1 is a dot."""

WORD_BITS = 32
WORD_LIMIT = 4294967296
FIRST_WORD_BELOW_ZERO = 2147483648
STEEPEST = 4096
LARGEST_SIDE = 256


def signed(word):
    if word >= FIRST_WORD_BELOW_ZERO:
        return word - WORD_LIMIT
    return word


def side_in_range(side):
    return 1 <= side <= LARGEST_SIDE


def shear_in_range(k, d, w, h):
    if not -STEEPEST <= k <= STEEPEST:
        return False
    if not 1 <= d <= STEEPEST:
        return False
    return side_in_range(w) and side_in_range(h)


def shear_move(k, d, w, c):
    # Twice the distance from the middle keeps it whole; adding d ahead of the quotient makes a half go up.
    return (k * (2 * c - (w - 1)) + d) // (2 * d)


def shear_moves(k, d, w):
    return [shear_move(k, d, w, c) for c in range(w)]


def words_in_row(w):
    return (w + WORD_BITS - 1) // WORD_BITS


def dot_at(x, w, h, c, r):
    # Asking for the column by w, not by the row's words, keeps out the bits behind the last column.
    if c < 0 or c >= w or r < 0 or r >= h:
        return 0
    word = x[r * words_in_row(w) + c // WORD_BITS]
    return (word >> (c % WORD_BITS)) & 1


def row_words(dots):
    words = [0] * words_in_row(len(dots))
    for c in range(len(dots)):
        words[c // WORD_BITS] = words[c // WORD_BITS] | (dots[c] << (c % WORD_BITS))
    return words


def st_shear(k, d, w, h, x):
    slope = signed(k)
    if not shear_in_range(slope, d, w, h):
        return [-2]
    moves = shear_moves(slope, d, w)
    answer = [0]
    for r in range(h):
        answer.extend(row_words([dot_at(x, w, h, c, r - moves[c]) for c in range(w)]))
    return answer


def st_slant(k, d, w, h, x):
    slope = signed(k)
    if not shear_in_range(slope, d, w, h):
        return [-2]
    moves = shear_moves(slope, d, h)
    answer = [0]
    for r in range(h):
        answer.extend(row_words([dot_at(x, w, h, c - moves[r], r) for c in range(w)]))
    return answer


def st_roll(k, d, w, h, x):
    slope = signed(k)
    if not shear_in_range(slope, d, w, h):
        return [-2]
    moves = shear_moves(slope, d, w)
    answer = [0]
    for r in range(h):
        answer.extend(row_words([dot_at(x, w, h, c, (r - moves[c]) % h) for c in range(w)]))
    return answer

"""The calls on a page, a list of h rows of words of 32 bits, row behind row, 1 is a dot; and on a row of numbers."""

WORD_BITS = 32
WORD_LIMIT = 4294967296
FIRST_WORD_BELOW_ZERO = 2147483648
STEEPEST = 4096
LARGEST_SIDE = 256
FARTHEST_TRY = 64
MOST_NUMBERS = 4096
FARTHEST_MEAN = 4096
SHARP_LIMIT = 65536


def signed(word):
    if word >= FIRST_WORD_BELOW_ZERO:
        return word - WORD_LIMIT
    return word


def side_in_range(side):
    return 1 <= side <= LARGEST_SIDE


def shear_in_range(k, d, w, h):
    if not -STEEPEST <= k <= STEEPEST:
        return False
    if not 1 <= d <= STEEPEST:
        return False
    return side_in_range(w) and side_in_range(h)


def shear_move(k, d, w, c):
    # Twice the distance from the middle keeps it whole; adding d ahead of the quotient makes a half go up.
    return (k * (2 * c - (w - 1)) + d) // (2 * d)


def shear_moves(k, d, w):
    return [shear_move(k, d, w, c) for c in range(w)]


def words_in_row(w):
    return (w + WORD_BITS - 1) // WORD_BITS


def dot_at(x, w, h, c, r):
    # Asking for the column by w, not by the row's words, keeps out the bits behind the last column.
    if c < 0 or c >= w or r < 0 or r >= h:
        return 0
    word = x[r * words_in_row(w) + c // WORD_BITS]
    return (word >> (c % WORD_BITS)) & 1


def row_words(dots):
    words = [0] * words_in_row(len(dots))
    for c in range(len(dots)):
        words[c // WORD_BITS] = words[c // WORD_BITS] | (dots[c] << (c % WORD_BITS))
    return words


def dots_in_column(x, w, h, c):
    return [r for r in range(h) if dot_at(x, w, h, c, r) == 1]


def columns_of_dots(x, w, h):
    return [dots_in_column(x, w, h, c) for c in range(w)]


def sheared_counts(k, d, h, columns):
    moves = shear_moves(k, d, len(columns))
    counts = [0] * h
    for c in range(len(columns)):
        for r in columns[c]:
            row = r + moves[c]
            if 0 <= row < h:
                counts[row] = counts[row] + 1
    return counts


def counts_down(columns, h):
    # A shear by 0 leaves every dot where it is.
    return sheared_counts(0, 1, h, columns)


def counts_across(columns):
    return [len(rows) for rows in columns]


def sharpness(numbers):
    return sum([(numbers[i] - numbers[i - 1]) ** 2 for i in range(1, len(numbers))])


def slopes_to_try(m):
    # In this order the first of as sharp ones is the nearest to 0, and of k and -k that below 0.
    slopes = [0]
    for k in range(1, m + 1):
        slopes.extend([-k, k])
    return slopes


def runs_of_true(marks):
    runs = []
    length = 0
    for i in range(len(marks)):
        if marks[i]:
            length = length + 1
        elif length > 0:
            runs.append((i - length, length))
            length = 0
    if length > 0:
        runs.append((len(marks) - length, length))
    return runs


def gaps_in(l, most):
    return runs_of_true([number <= most for number in l])


def bands_in(l, most, least):
    left = [True] * len(l)
    for begin, length in gaps_in(l, most):
        if length >= least:
            for i in range(begin, begin + length):
                left[i] = False
    return runs_of_true(left)


def tell_runs(runs):
    begins = [begin for begin, length in runs]
    lengths = [length for begin, length in runs]
    return [len(runs), len(runs)] + begins + [len(runs)] + lengths


def ahead_of_first_above(counts, most):
    for i in range(len(counts)):
        if counts[i] > most:
            return i
    return len(counts)


def sums_ahead(numbers):
    total = 0
    sums = [0]
    for number in numbers:
        total = total + number
        sums.append(total)
    return sums


def means_within(l, d):
    # With the sums ahead of each place, a wide d costs no more than a narrow one.
    sums = sums_ahead(l)
    means = []
    for i in range(len(l)):
        begin = max(i - d, 0)
        end = min(i + d + 1, len(l))
        means.append((sums[end] - sums[begin]) // (end - begin))
    return means


def places_of_hills(l):
    # A 0 on either side stands for what is beyond the ends, so place i of l is place i + 1 here.
    padded = [0] + l + [0]
    return [i for i in range(len(l)) if padded[i] < padded[i + 1] and padded[i + 1] >= padded[i + 2]]


def st_shear(k, d, w, h, x):
    slope = signed(k)
    if not shear_in_range(slope, d, w, h):
        return [-2]
    moves = shear_moves(slope, d, w)
    answer = [0]
    for r in range(h):
        answer.extend(row_words([dot_at(x, w, h, c, r - moves[c]) for c in range(w)]))
    return answer


def st_slant(k, d, w, h, x):
    slope = signed(k)
    if not shear_in_range(slope, d, w, h):
        return [-2]
    moves = shear_moves(slope, d, h)
    answer = [0]
    for r in range(h):
        answer.extend(row_words([dot_at(x, w, h, c - moves[r], r) for c in range(w)]))
    return answer


def st_roll(k, d, w, h, x):
    slope = signed(k)
    if not shear_in_range(slope, d, w, h):
        return [-2]
    moves = shear_moves(slope, d, w)
    answer = [0]
    for r in range(h):
        answer.extend(row_words([dot_at(x, w, h, c, (r - moves[c]) % h) for c in range(w)]))
    return answer


def st_counts(k, d, w, h, x):
    slope = signed(k)
    if not shear_in_range(slope, d, w, h):
        return [-2]
    return [0] + sheared_counts(slope, d, h, columns_of_dots(x, w, h))


def st_straight(m, d, w, h, x):
    if m > FARTHEST_TRY or not shear_in_range(0, d, w, h):
        return [-2]
    columns = columns_of_dots(x, w, h)
    straightest = 0
    sharpest = -1
    for k in slopes_to_try(m):
        sharp = sharpness(sheared_counts(k, d, h, columns))
        if sharp > sharpest:
            straightest = k
            sharpest = sharp
    return [0, 1, straightest % WORD_LIMIT, 1, sharpest]


def st_sharp(l):
    if len(l) > MOST_NUMBERS or max(l, default=0) >= SHARP_LIMIT:
        return [-2]
    return [0, sharpness(l)]


def st_gaps(most, l):
    if len(l) > MOST_NUMBERS:
        return [-2]
    return tell_runs(gaps_in(l, most))


def st_bands(most, least, l):
    if len(l) > MOST_NUMBERS:
        return [-2]
    return tell_runs(bands_in(l, most, least))


def st_margins(most, w, h, x):
    if not side_in_range(w) or not side_in_range(h):
        return [-2]
    columns = columns_of_dots(x, w, h)
    across = counts_across(columns)
    down = counts_down(columns, h)
    sides = [across, down, list(reversed(across)), list(reversed(down))]
    return [0] + [ahead_of_first_above(counts, most) for counts in sides]


def st_smooth(d, l):
    if d > FARTHEST_MEAN or len(l) > MOST_NUMBERS:
        return [-2]
    return [0] + means_within(l, d)


def st_hills(l):
    if len(l) > MOST_NUMBERS:
        return [-2]
    places = places_of_hills(l)
    return [len(places)] + places


def st_upright(w, h, x):
    if not side_in_range(w) or not side_in_range(h):
        return [-2]
    columns = columns_of_dots(x, w, h)
    rows_sharp = sharpness(counts_down(columns, h))
    columns_sharp = sharpness(counts_across(columns))
    return [1 if columns_sharp > rows_sharp else 0, rows_sharp, columns_sharp]


def st_turn(w, h, x):
    if not side_in_range(w) or not side_in_range(h):
        return [-2]
    answer = [0]
    for c in range(w):
        # A quarter clockwise puts the last row into the first column, so a column is read from below.
        answer.extend(row_words([dot_at(x, w, h, c, r) for r in range(h - 1, -1, -1)]))
    return answer


def st_shift1(w, k, d, c):
    return [shear_move(signed(k), max(d, 1), max(w, 1), c) % WORD_LIMIT]

"""Private: how many whole RAYS have which size, and how many rows of them come together to what.

A size a + b root is told as the pair (a, b).
"""

from math import comb, isqrt


def numbers_to(most):
    """The list, ascending, of the pairs (numbers, size) of all whole RAYS of a size with a at most most."""
    found = []
    span = range(-isqrt(most), isqrt(most) + 1)
    short = [(c, d, c * c + d * d) for c in span for d in span]
    for a in span:
        for b in span:
            left = most - a * a - b * b
            found.extend([((a, b, c, d), (most - left + square, a * b + b * c + c * d - d * a))
                          for c, d, square in short if square <= left])
    return found


def size_counts(most):
    """How many whole RAYS have each size with a at most most, those of none left out."""
    many_of = {}
    if most < 0:
        return many_of
    side = isqrt(most)
    span = range(-side, side + 1)
    short = [(b, d, b * b + d * d) for b in span for d in span]
    # Two eighths of a turn lead each RAY, but those with a and c 0, to three
    # others of its size; of these four just one has a above 0, c not below it.
    starts = [(0, 0, 1)] + [(a, c, 4) for a in range(1, side + 1) for c in range(side + 1)]
    for a, c, times in starts:
        ahead = a * a + c * c
        for b, d, square in short:
            if square + ahead <= most:
                size = (square + ahead, a * b + b * c + c * d - d * a)
                many_of[size] = many_of.get(size, 0) + times
    return many_of


def row_counts(length, most):
    """For rows of 0, 1, .. below length whole RAYS how many come together to each (a, b), a at most most."""
    ones = size_counts(most)
    rows = [{(0, 0): 1}]
    for _ in range(length - 1):
        longer = {}
        for a, b in rows[-1]:
            many = rows[-1][(a, b)]
            for c, d in ones:
                if a + c <= most:
                    both = (a + c, b + d)
                    longer[both] = longer.get(both, 0) + many * ones[(c, d)]
        rows.append(longer)
    return rows


def rest_of_size(a, b):
    """The rest of the size a + b root."""
    return 1 if a % 2 == 1 else 2 * (b % 2)


def rests_counted(length, k):
    """The list of the pairs (triple, many): how many rows of whole RAYS come to (2 ** k, 0) with these rests."""
    if k == 0:
        return [((length - 1, 1, 0), 8 * length)]
    half = 1 << (k - 1)
    counts = size_counts(2 * half)
    # Each size (a, b) is counted times y to the b. By rests by 2 ** span + 1, so
    # great that no count is cut, 2 ** (span // half) to the power half is -1: if
    # its powers 0 to half - 1 are taken for y, one by one, and all is added up,
    # rows cancel but those in which b comes to 0. (Where rests of 2 are even in
    # number b comes to an even number, below 2 * half.)
    bits = sum(list(counts.values())).bit_length() * length + k
    span = half * (bits // half + 1)
    modulus = (1 << span) + 1
    sums = {}
    for point in range(half // 2 + 1):
        # Each of these, but the first and the last, stands for another one, too,
        # that makes the same sums, since twins are as many.
        times = 1 if 2 * point in (0, half) else 2
        series = series_at(counts, half, span // half * point, span)
        for pair, value in sums_at(length, half, series, modulus):
            sums[pair] = sums.get(pair, 0) + times * value
    found = []
    for one, two in sums:
        many = sums[(one, two)] % modulus // half
        if many > 0:
            ways = comb(length, one) * comb(length - one, two)
            found.append(((length - one - two, one, two), ways * many))
    return found


def series_at(counts, half, shift, span):
    """For rests 0, 1, 2 the counts of sizes (2 i, b) or (2 i + 1, b), times y to the b, added up; y is 2 ** shift."""
    modulus = (1 << span) + 1
    # There are as many of size (a, -b), the twins, as of (a, b).
    both_ways = [((1 << shift * b % (2 * span)) + (1 << -shift * b % (2 * span))) % modulus for b in range(2 * half)]
    series = [[0] * (half + 1) for _ in range(3)]
    for a, b in counts:
        if b >= 0:
            series[rest_of_size(a, b)][a // 2] += counts[(a, b)] * (both_ways[b] if b > 0 else 1)
    return [[value % modulus for value in own] for own in series]


def series_product(one, other, modulus):
    """The product of two series, from 0 on throughout, as far as these go."""
    if one[0] == 1 and sum(one) == 1:
        return other
    return [sum([left * right for left, right in zip(one[:at + 1], other[at::-1])]) % modulus
            for at in range(len(one))]


def series_powers(first, square, many, modulus):
    """The list of first times 0, 1, .. many squares."""
    powers = [first]
    for _ in range(many):
        powers.append(series_product(powers[-1], square, modulus))
    return powers


def sums_at(length, half, series, modulus):
    """The list of ((one, two), value): for so many of rests 1 and 2, both even, the sum of what comes to half."""
    zeros, ones, twos = [series_product(own, own, modulus) for own in series]
    unit = [1] + [0] * half
    pairs = length // 2
    with_zeros = series_powers(series[0] if length % 2 == 1 else unit, zeros, pairs, modulus)
    found = []
    for one, with_ones in enumerate(series_powers(unit, ones, min(pairs, half), modulus)):
        # Two of rest 1 come to one more than what their halves come to.
        at = half - one
        for two, both in enumerate(series_powers(with_ones, twos, pairs - one, modulus)):
            left = with_zeros[pairs - one - two]
            value = sum([own * other for own, other in zip(both[:at + 1], left[at::-1])])
            found.append(((2 * one, 2 * two), value % modulus))
    return found

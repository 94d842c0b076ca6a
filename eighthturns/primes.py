"""Private: odd prime numbers, and the PRIMES that divide a + b root."""

from math import gcd


def odd_primes_of(number):
    """The list of the odd prime numbers that divide this number, not 0, ascending."""
    left = abs(number)
    while left % 2 == 0:
        left //= 2
    found = []
    p = 3
    while p * p <= left:
        if left % p == 0:
            found.append(p)
            while left % p == 0:
                left //= p
        p += 2
    return found + [left] if left > 1 else found


def often_in(number, p):
    """How often p divides this number, not 0."""
    often = 0
    while number % p == 0:
        number //= p
        often += 1
    return often


def inverse_by(number, p):
    """What, times this number, leaves 1 by the prime number p, which does not divide it."""
    one, other = (p, 0), (number % p, 1)
    # Of each pair the first is the second times this number, but for a multiple of p.
    while other[0] > 0:
        times = one[0] // other[0]
        one, other = other, (one[0] - times * other[0], one[1] - times * other[1])
    return one[1] % p


def norm_of(a, b):
    """The norm of a + b root."""
    return a * a - 2 * b * b


def without_common(a, b, p):
    """The triple of how often p divides both a and b, and of what is left of these."""
    often = often_in(gcd(a, b), p)
    for _ in range(often):
        a, b = a // p, b // p
    return often, a, b


def often_by(a, b, prime):
    """How often the PRIME divides a + b root, not 0."""
    p, r = prime
    often, a, b = without_common(a, b, p)
    # Of what is left not both r and its other can divide, so one has all of the norm.
    if r == 0 or (a + b * r) % p != 0:
        return often
    return often + often_in(norm_of(a, b), p)


def root_by(a, b, p):
    """A number r such that p, which leaves 1 or 7 by 8 and divides the norm of a + b root, divides r r less 2."""
    _, a, b = without_common(a, b, p)
    if norm_of(a, b) % p == 0:
        return -a * inverse_by(b, p) % p
    r = 1
    # Then p twice divides the norm, so it is not large.
    while (r * r - 2) % p != 0:
        r += 1
    return r


def primes_by(a, b):
    """The list, ascending, of the pairs (PRIME, often) of those that divide a + b root, not 0."""
    found = []
    for p in odd_primes_of(norm_of(a, b)):
        roots = (0,)
        if p % 8 == 1 or p % 8 == 7:
            root = root_by(a, b, p)
            roots = (min(root, p - root), max(root, p - root))
        often = [((p, r), often_by(a, b, (p, r))) for r in roots]
        found.extend([(prime, many) for prime, many in often if many > 0])
    return found

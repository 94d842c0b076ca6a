"""Private: the turn of an upright TABLE, reckoned by rests."""

# Of numbers told by their rests by 17, 2 has the fourth power -1, as w does,
# and 14 times 2 less 2 to the third, as root, is 1. So each RAY has a rest,
# sums and products of RAYS have those of rests, and the eight powers of w
# have eight unlike ones.
PRIME = 17
W_RESTS = (1, 2, 4, 8)
SLOPE_RESTS = (1, 14, 9, 7, 13, 12, 15, 6, 16, 3, 8, 10, 4, 5, 2, 11)
EIGHTH_RESTS = (1, 2, 4, 8, 16, 15, 13, 9)


def ray_rest(ray):
    """The rest of the RAY."""
    whole = sum([number * rest for number, rest in zip(ray, W_RESTS)])
    return whole * SLOPE_RESTS[ray[4] % 16] % PRIME


def rest_inverse(rest):
    """The rest that is 1 times this one, which is not 0."""
    return [own for own in range(PRIME) if own * rest % PRIME == 1][0]


def determinant_rest(rows):
    """The determinant of these rows of rests, not 0."""
    product = 1
    while len(rows) > 0:
        at = [number for number, row in enumerate(rows) if row[0] != 0][0]
        top = rows[at]
        # An odd number of rows ahead of it turns the sign about.
        product = product * top[0] * (1 - 2 * (at % 2)) % PRIME
        part = rest_inverse(top[0])
        rows = [[(own - row[0] * part * above) % PRIME for own, above in zip(row[1:], top[1:])]
                for number, row in enumerate(rows) if number != at]
    return product


def upright_turn(table):
    """The number from 0 to 7 of the power of w that the determinant of this upright TABLE is."""
    return EIGHTH_RESTS.index(determinant_rest([[ray_rest(ray) for ray in row] for row in table]))

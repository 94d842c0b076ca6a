"""Private: TABLES of one wire, but for powers of w, told by how they turn the three AXES.

A FORM is a pair (abouts, images): eighth turns about the AXES 1, 2, 3, multiplied from the left, no two
neighbours about one; behind them a QUARTER TABLE that turns the AXES to these images, -1, -2, -3 the other way.
"""

from eighthturns.rays import mirrored, ray_product, times_root

STILL_FORM = ((), (1, 2, 3))


def times_hat(form):
    """The FORM of the TABLE times H."""
    abouts, (x, y, z) = form
    return abouts, (z, -y, x)


def times_quarter(form):
    """The FORM of the TABLE times S."""
    abouts, (x, y, z) = form
    return abouts, (y, -x, z)


def times_eighth(form):
    """The FORM of the TABLE times T."""
    abouts, images = form
    about = abs(images[2])
    again = abouts[-1:] == (about,)
    behind = (abouts[:-1] if again else abouts + (about,)), images
    # Twice about one AXIS is a quarter turn, and so is what lies between a
    # turn about an AXIS and one the other way.
    return times_quarter(behind) if again == (images[2] > 0) else behind


def times_letter(form, letter):
    """The FORM of the TABLE times the one that this letter, 0, 1 or 2, stands for."""
    if letter == 2:
        return times_eighth(form)
    return times_eighth(times_hat(times_quarter(form) if letter == 1 else form))


def letters_of_form(form):
    """The LETTERS of the FORM."""
    letters = []
    behind = STILL_FORM
    for about in form[0]:
        letters.append([abs(image) for image in behind[1]].index(about))
        behind = times_letter(behind, letters[-1])
    return tuple(letters)


def form_of(table):
    """The FORM of the TABLE."""
    rows, power = axis_rows(table)
    abouts = []
    for _ in range(power):
        # Of the three rows just one has a lower power than the others: that
        # of the AXIS about which the leftmost eighth turns.
        row = [all_even(own) for own in rows].index(True)
        abouts.append(row + 1)
        rows = eighth_taken(rows, row)
    images = [sum([(at + 1) * row[column][0] for at, row in enumerate(rows)]) for column in range(3)]
    return tuple(abouts), tuple(images)


def all_even(row):
    """Whether root divides all of these pairs."""
    return all([x % 2 == 0 for x, _ in row])


def over_root_once(row):
    """The pairs, all divided by root."""
    return [(y, x // 2) for x, y in row]


def eighth_taken(rows, row):
    """The rows times root to their power, less an eighth turn about the AXIS of this row."""
    second, third = (row + 1) % 3, (row + 2) % 3
    pairs = list(zip(rows[second], rows[third]))
    taken = list(rows)
    taken[row] = over_root_once(rows[row])
    taken[second] = [((x + v) // 2, (y + u) // 2) for (x, y), (v, u) in pairs]
    taken[third] = [((v - x) // 2, (u - y) // 2) for (x, y), (v, u) in pairs]
    return taken


def axis_rows(table):
    """How the TABLE turns the AXES: three rows of pairs (x, y), x + y root, and their power."""
    k = max([ray[4] for row in table for ray in row])
    (p, q), (r, s) = [[times_root(ray[:4], k - ray[4]) + (0,) for ray in row] for row in table]
    straight, crossed, fallen = across(p, s), across(q, r), across(p, q)
    both, less, aside = sums(straight, crossed, 1), sums(straight, crossed, -1), sums(across(p, r), across(q, s), -1)
    level = sums(across(p, p), across(q, q), -1)
    rows = [
        [real_pair(both, 1), turned_pair(less, 1), real_pair(aside, 1)],
        [turned_pair(both, -1), real_pair(less, 1), turned_pair(aside, -1)],
        [real_pair(fallen, 2), turned_pair(fallen, 2), real_pair(level, 1)],
    ]
    power = 2 * k + 1
    while power > 0 and all([all_even(row) for row in rows]):
        rows, power = [over_root_once(row) for row in rows], power - 1
    return rows, power


def across(one, other):
    """The numbers of a whole RAY times the mirror of another one."""
    return ray_product(one, mirrored(other))[:4]


def sums(ones, others, times):
    """The ones and so many times the others, added up one by one."""
    return [one + times * other for one, other in zip(ones, others)]


def real_pair(numbers, times):
    """So many times the RAY of these numbers and its mirror, added up, halved and multiplied by root."""
    a, b, _, d = numbers
    return times * (b - d), times * a


def turned_pair(numbers, times):
    """The same of the RAY turned back by two eighths."""
    _, b, c, d = numbers
    return times * (b + d), times * c

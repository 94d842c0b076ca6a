"""Counted: READINGS by number, and how far apart their LETTERS are."""

from eighthturns.axes import form_of, letters_of_form, times_letter
from eighthturns.readings import letters_in, quarter_tables, reading_letters, reading_with
from eighthturns.shapes import frozen


def tables_many(many):
    """How many upright TABLES of 2 places have a READING of just so many eighths."""
    return 192 if many == 0 else 576 << (many - 1)


def tables_at_most(many):
    """How many upright TABLES of 2 places have a READING of at most so many eighths."""
    return 192 * near_many(many)


def near_many(many):
    """How many LETTERS are at most so far apart from given ones."""
    return (3 << many) - 2


def letters_to(most):
    """The list of all LETTERS of at most so many numbers, shorter ones first."""
    found = [()]
    longest = [()]
    for _ in range(most):
        longest = [own + (letter,) for own in longest for letter in range(2 if own else 3)]
        found.extend(longest)
    return found


def letters_by_number(length, number):
    """The LETTERS of this length that have this number among them, ascending."""
    if length == 0:
        return ()
    steps = [number >> at & 1 for at in range(length - 1)]
    return (number >> (length - 1),) + tuple(steps[::-1])


def number_of_letters(letters):
    """The number of these LETTERS among those of their length, ascending."""
    number = 0
    for letter in letters:
        number = 2 * number + letter
    return number


def reading_by_number(number):
    """The READING with this number in ORDER."""
    length = 0
    left = number
    while left >= tables_many(length):
        left -= tables_many(length)
        length += 1
    return reading_with(letters_by_number(length, left // 192), quarter_tables()[left % 192])


def number_of_reading(reading):
    """The number of the READING in ORDER."""
    letters = reading_letters(reading)
    ahead = tables_at_most(len(letters) - 1) if len(letters) > 0 else 0
    return ahead + 192 * number_of_letters(letters) + quarter_tables().index(frozen(reading[2]))


def next_reading(reading):
    """The READING next in ORDER."""
    return reading_by_number(number_of_reading(reading) + 1)


def letters_of(table):
    """The LETTERS of the TABLE."""
    return letters_in(table)


def letters_moved(table, letters):
    """The LETTERS of the table times a TABLE that has these LETTERS."""
    form = form_of(table)
    for letter in letters:
        form = times_letter(form, letter)
    return letters_of_form(form)


def beginning_of(one, other):
    """The longest beginning that both have in common."""
    many = 0
    while many < min(len(one), len(other)) and one[many] == other[many]:
        many += 1
    return tuple(one[:many])


def apart(one, other):
    """How far apart both are."""
    return len(one) + len(other) - 2 * len(beginning_of(one, other))


def way_between(letters, other):
    """The way from one to the other."""
    shared = len(beginning_of(letters, other))
    down = [tuple(letters[:length]) for length in range(len(letters), shared, -1)]
    return down + [tuple(other[:length]) for length in range(shared, len(other) + 1)]


def middle_of(letters, other, third):
    """The LETTERS that lie on the ways between each two of these three."""
    shared = [beginning_of(letters, other), beginning_of(other, third), beginning_of(letters, third)]
    return max(shared, key=len)


def near_both(letters, other, most):
    """How many LETTERS are at most so far apart from both."""
    between = apart(letters, other)
    # They are all that are near the middle of the way: near the LETTERS there,
    # or, if the way is odd, near one of the two neighbours there.
    left = most - (between + 1) // 2
    if left < 0:
        return 0
    if between % 2 == 0:
        return near_many(left)
    return (4 << left) - 2


def least_shift(table):
    """The least number by which LETTERS and the same ones moved by the table are apart."""
    letters = letters_of(table)
    once, twice = len(letters), len(letters_moved(table, letters))
    if twice > once:
        return twice - once
    # None is shifted for good: some LETTERS stay, or two neighbours change places.
    return once % 2


def least_moved(table):
    """Of the LETTERS that are moved least those the least apart from ()."""
    # They lie on the way from () to where () is moved, which goes to them,
    # along with the shift and as far away from there again.
    letters = letters_of(table)
    return letters[:(len(letters) - least_shift(table)) // 2]

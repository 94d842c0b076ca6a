"""Readings: each upright TABLE of one wire told in just one way, by the eighths in it."""

from eighthturns.axes import STILL_FORM, form_of, letters_of_form, times_eighth, times_hat, times_quarter
from eighthturns.circuits import circuit_table
from eighthturns.errors import TooMany
from eighthturns.made import least_power
from eighthturns.rays import ONE, ZERO, eighth_of, over_root, ray_sum, turned_ray
from eighthturns.shapes import frozen, is_below
from eighthturns.tables import is_table, is_upright, still_table, table_mirrored, table_product, turns_to

LETTER_WORDS = ("TH", "THS", "T")
MOST_LETTERS = 6


def quarter_tables():
    """The set of the QUARTER TABLES."""
    found = []
    for first in range(8):
        for right in (0, 2, 4, 6):
            one, other = turned_ray(ONE, first), turned_ray(ONE, first + right)
            found.extend([((one, ZERO), (ZERO, other)), ((ZERO, one), (other, ZERO))])
            for below in (0, 2, 4, 6):
                turns = (first, first + right, first + below, first + right + below + 4)
                rays = [over_root(turned_ray(ONE, many), 1) for many in turns]
                found.append(((rays[0], rays[1]), (rays[2], rays[3])))
    return tuple(sorted(found))


def is_quarter(thing):
    """Whether thing is a QUARTER TABLE."""
    # These are just the upright TABLES that have no eighths.
    return is_table(thing) and len(thing) == 2 and is_upright(thing) and fewest_eighths(thing) == 0


def is_reading(thing):
    """Whether thing is a READING."""
    if not isinstance(thing, tuple) or len(thing) != 3:
        return False
    first, steps, rest = thing
    if not isinstance(first, bool) or not isinstance(steps, tuple):
        return False
    return all([is_below(step, 2) for step in steps]) and is_quarter(rest)


def letter_tables():
    """The TABLES that stand for the letters 0, 1 and 2."""
    return [circuit_table((1, gates_of_words(words))) for words in LETTER_WORDS]


def gates_of_words(words):
    """The GATES of one wire with these words, each a single letter."""
    return tuple([(word, 0) for word in words])


def letters_table(letters):
    """The TABLES of these LETTERS, multiplied from the left."""
    tables = letter_tables()
    product = still_table(2)
    for letter in letters:
        product = table_product(product, tables[letter])
    return product


def letters_in(table):
    """The LETTERS of the TABLE."""
    return letters_of_form(form_of(table))


def reading_letters(reading):
    """The LETTERS of the READING."""
    first, steps, _ = reading
    return ((2,) if first else ()) + tuple(steps)


def reading_with(letters, rest):
    """The READING with these LETTERS and this QUARTER TABLE."""
    first = letters[:1] == (2,)
    return first, (letters[1:] if first else letters), rest


def reading_of(table):
    """The READING with this TABLE."""
    letters = letters_in(table)
    return reading_with(letters, table_product(table_mirrored(letters_table(letters)), table))


def reading_table(reading):
    """The TABLE of the READING."""
    return table_product(letters_table(reading_letters(reading)), reading[2])


def reading_put(one, other):
    """The READING of the TABLE of one times that of other."""
    return reading_of(table_product(reading_table(one), reading_table(other)))


def reading_back(reading):
    """The READING of what takes its TABLE back."""
    return reading_of(table_mirrored(reading_table(reading)))


def fewest_eighths(table):
    """The eighths of the READING of the TABLE."""
    return len(letters_in(table))


def eighths_saved(circuit):
    """By how many its GATES T are more than the eighths of its TABLE."""
    words = [gate[0] for gate in circuit[1]]
    return words.count("T") - fewest_eighths(circuit_table(circuit))


def circuit_of_reading(reading):
    """A CIRCUIT of one wire with the TABLE of the READING and as many T as it has eighths."""
    gates = quarter_gates(frozen(reading[2]))
    for letter in reading_letters(reading)[::-1]:
        gates += gates_of_words(LETTER_WORDS[letter])
    return 1, gates


def quarter_gates(quarter):
    """GATES without T that make this QUARTER TABLE."""
    (left, right), (below, last) = quarter
    if right == ZERO:
        words, whirls = "S" * quarters_between(left, last), eighth_of(left)
    elif left == ZERO:
        words, whirls = "X" + "S" * quarters_between(right, below), eighth_of(right)
    else:
        words = "S" * quarters_between(left, right) + "H" + "S" * quarters_between(left, below)
        whirls = eighth_of(over_root(left, -1))
    return gates_of_words(words) + (("W",),) * whirls


def quarters_between(one, other):
    """How many quarter turns of one RAY make the other."""
    return turns_to((one,), (other,)) // 2


def axis_tables():
    """The three AXES."""
    return (((ZERO, ONE), (ONE, ZERO)), ((ZERO, turned_ray(ONE, 6)), (turned_ray(ONE, 2), ZERO)),
            ((ONE, ZERO), (ZERO, turned_ray(ONE, 4))))


def axes_table(table):
    """How the TABLE turns the three AXES, row by row."""
    back = table_mirrored(table)
    axes = axis_tables()
    turned = [table_product(table_product(table, axis), back) for axis in axes]
    return tuple([tuple([half_of_diagonal(table_product(axis, own)) for own in turned]) for axis in axes])


def half_of_diagonal(table):
    """Half of the sum of both RAYS on the diagonal."""
    return over_root(ray_sum(table[0][0], table[1][1]), 2)


def axes_power(table):
    """The greatest k of the RAYS of its axes_table."""
    return least_power(axes_table(table))


def words_longer(words_with):
    """For each FORM the list of the WORDS with it, one letter longer than these."""
    longer = {}
    for form in words_with:
        ahead = [("H", times_hat(form)), ("S", times_quarter(form)), ("T", times_eighth(form))]
        for letter, own in ahead:
            longer.setdefault(own, []).extend([letter + word for word in words_with[form]])
    return longer


def words_of(table, length):
    """The list of all WORDS of so many letters whose TABLE is like this one."""
    words_with = {STILL_FORM: [""]}
    for _ in range(length):
        words_with = words_longer(words_with)
    return sorted(words_with.get(form_of(table), []))


def shortest_word(table):
    """Of the WORDS of fewest letters with a TABLE like this one the least."""
    wanted = form_of(table)
    words_with = {STILL_FORM: [""]}
    for _ in range(MOST_LETTERS):
        if wanted not in words_with:
            words_with = words_longer(words_with)
    if wanted not in words_with:
        raise TooMany()
    return min(words_with[wanted])

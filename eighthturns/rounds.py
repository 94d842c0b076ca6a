"""Rounds: which TABLES come round, which sets of them do, and with how many steps."""

from math import gcd

from eighthturns.counted import letters_to
from eighthturns.errors import NoPaper, TooMany, Unfit
from eighthturns.rays import is_ray, rays_added, turned_ray
from eighthturns.readings import letters_table, quarter_tables
from eighthturns.shapes import frozen, is_below, is_number
from eighthturns.tables import determinant, like_turn, still_table, table_mirrored, table_power, table_product


def main_sums(table):
    """The main sums of the TABLE."""
    many = len(table)
    parts = [[] for _ in range(many)]
    for bits in range(1, 1 << many):
        places = [place for place in range(many) if bits >> place & 1 == 1]
        left = [[table[row][column] for column in places] for row in places]
        parts[len(places) - 1].append(determinant(left))
    return tuple([rays_added(own) for own in parts])


def comes_round(table):
    """Whether some power of the TABLE is like ONE."""
    return all([ray[4] == 0 for ray in main_sums(table)])


def turn_from_one(table):
    """The number of turns that make the TABLE of ONE, or None."""
    return like_turn(table, still_table(len(table)))


def length_and_turn(table):
    """The length of a TABLE that comes round, and the turns by which that power is like ONE."""
    length, power = 1, frozen(table)
    while turn_from_one(power) is None:
        length, power = length + 1, table_product(power, table)
    return length, turn_from_one(power)


def round_length(table):
    """The length of the TABLE, or None."""
    if not comes_round(table):
        return None
    return length_and_turn(table)[0]


def whole_length(table):
    """The whole length of the TABLE, or None."""
    if not comes_round(table):
        return None
    length, turn = length_and_turn(table)
    return length * (8 // gcd(turn, 8))


def round_paper(table):
    """The pair (m, ray) of the first main sum that is not whole."""
    for at, ray in enumerate(main_sums(table)):
        if ray[4] > 0:
            return (at + 1, ray)
    raise NoPaper()


def is_round_paper(table, thing):
    """Whether thing is the pair (m, ray) of a main sum that is not whole."""
    if not isinstance(thing, tuple) or len(thing) != 2:
        return False
    m, ray = thing
    if not is_number(m) or not 1 <= m <= len(table) or not is_ray(ray):
        return False
    return ray[4] > 0 and main_sums(table)[m - 1] == ray


def power_far(table, times):
    """The TABLE so many times; below 0 of the mirrored one."""
    many = abs(times)
    if many > 200:
        if not comes_round(table):
            raise TooMany()
        many %= whole_length(table)
    return table_power(table_mirrored(table) if times < 0 else table, many)


def turn_at(table, times):
    """The number of turns by which this power is like ONE, or None."""
    return turn_from_one(power_far(table, times))


def power_like(table, other):
    """The least number of a power that other is like, or None."""
    length = round_length(table)
    if length is None:
        raise Unfit()
    power = still_table(len(table))
    for many in range(length):
        if like_turn(power, other) is not None:
            return many
        power = table_product(power, table)
    return None


def turned_about(table, other):
    """The product of other, table and other mirrored."""
    return table_product(table_product(other, table), table_mirrored(other))


def chain_table(tables, chain):
    """The TABLES of the CHAIN, multiplied in this order."""
    product = still_table(2)
    for number in chain:
        product = table_product(product, tables[number])
    return product


def least_endless(tables):
    """The least CHAIN that does not come round, or None."""
    # A TABLE moves the LETTERS as a tree is moved. If each of some TABLES and
    # each product of two leaves a spot of the tree, then they all leave one in
    # common, and so does all that is made of them: two numbers are enough.
    numbers = range(len(tables))
    chains = [(one,) for one in numbers] + [(one, other) for one in numbers for other in numbers]
    for chain in chains:
        if not comes_round(chain_table(tables, chain)):
            return chain
    return None


def all_round(tables):
    """Whether all CHAINS come round."""
    return least_endless(tables) is None


def one_of_like(table):
    """The least of the TABLES that are like this one."""
    return min([tuple([tuple([turned_ray(ray, many) for ray in row]) for row in table]) for many in range(8)])


def made_many(tables):
    """How many TABLES all CHAINS make, of like ones just one; None if there is no end."""
    if not all_round(tables):
        return None
    made = []
    ahead = list(tables)
    while len(ahead) > 0:
        table = one_of_like(ahead.pop())
        if table not in made:
            made.append(table)
            ahead.extend([table_product(table, own) for own in tables])
    return len(made)


def endless_chain(tables):
    """The least CHAIN that does not come round."""
    chain = least_endless(tables)
    if chain is None:
        raise NoPaper()
    return chain


def is_endless_chain(tables, thing):
    """Whether thing is a CHAIN that does not come round."""
    if not isinstance(thing, tuple) or len(thing) == 0:
        return False
    if not all([is_below(number, len(tables)) for number in thing]):
        return False
    return not comes_round(chain_table(tables, thing))


def rounds_row(most):
    """The pairs (length, many) of the TABLES of READINGS with at most so many eighths."""
    rests = [quarter for quarter in quarter_tables() if one_of_like(quarter) == quarter]
    many_of = {}
    for letters in letters_to(most):
        product = letters_table(letters)
        for rest in rests:
            length = round_length(table_product(product, rest))
            many_of[length] = many_of.get(length, 0) + 1
    lengths = sorted([length for length in many_of if length is not None])
    if None in many_of:
        lengths.append(None)
    return [(length, many_of[length]) for length in lengths]

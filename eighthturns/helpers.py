"""Helpers: which TABLES wires alone make, and all others with one wire more."""

from eighthturns.circuits import circuit_table, is_circuit
from eighthturns.deeds import check_places, deeds_table
from eighthturns.errors import NoPaper, NoPlace, Unfit
from eighthturns.made import deeds_up
from eighthturns.placed import gates_of_deeds, helper_gates, mix_gates, pair_gates, plain_gates, swap_gates
from eighthturns.rays import ZERO, turned_ray
from eighthturns.readings import circuit_of_reading, reading_of
from eighthturns.shapes import are_below, frozen, is_number
from eighthturns.tables import columns_of, is_upright, still_table
from eighthturns.turned import upright_turn


def wires_of_table(table):
    """How many wires the upright TABLE has."""
    if len(table) not in (2, 4, 8) or not is_upright(table):
        raise Unfit()
    return len(table).bit_length() - 1


def turn_and_step(table):
    """The turn of the TABLE, and of what it is a multiple if wires alone make it."""
    n = wires_of_table(table)
    return upright_turn(table), 1 << (n - 1)


def determinant_turn(table):
    """The turn of the TABLE."""
    return turn_and_step(table)[0]


def wires_alone(table):
    """Whether some CIRCUIT of n wires makes the TABLE."""
    turn, step = turn_and_step(table)
    return turn % step == 0


def gates_for(table):
    """A CIRCUIT of n wires that makes the TABLE."""
    if not wires_alone(table):
        raise NoPaper()
    return circuit_alone(frozen(table))


def circuit_alone(table):
    """A CIRCUIT of n wires that makes a TABLE that wires alone make."""
    if len(table) == 2:
        return circuit_of_reading(reading_of(table))
    n = len(table).bit_length() - 1
    return n, plain_gates(gates_of_deeds(n, deeds_up(columns_of(table))))


def is_gates_for(table, thing):
    """Whether thing is a CIRCUIT of n wires that makes the TABLE."""
    n = wires_of_table(table)
    return is_circuit(thing) and thing[0] == n and circuit_table(thing) == frozen(table)


def helper_bar(table):
    """The HELPER BAR of the TABLE."""
    turn, step = turn_and_step(table)
    if turn % step == 0:
        raise NoPaper()
    return turn


def is_helper_bar(table, thing):
    """Whether thing is the HELPER BAR of the TABLE."""
    turn, step = turn_and_step(table)
    return turn % step != 0 and is_number(thing) and thing == turn


def with_helper(table):
    """A CIRCUIT of n + 1 wires that makes the TABLE with a helper."""
    turn, step = turn_and_step(table)
    n, over = step.bit_length(), turn % step
    # What is over is turned ahead, at the last place; wires alone make what is left.
    left = [row[:-1] + (turned_ray(row[-1], -over),) for row in frozen(table)]
    return n + 1, tuple(helper_gates(n, over)) + circuit_alone(tuple(left))[1]


def is_with_helper(table, thing):
    """Whether thing is a CIRCUIT of n + 1 wires that makes the TABLE with a helper."""
    n = wires_of_table(table)
    if not is_circuit(thing) or thing[0] != n + 1:
        return False
    whole = circuit_table(thing)
    return least_left(whole) is None and table_helped(whole) == frozen(table)


def lefts(table, place, other):
    """Whether from place, with 0 at the helper, something comes to other, with 1 there."""
    return place % 2 == 0 and other % 2 == 1 and table[other][place] != ZERO


def least_left(table):
    """The least LEFT of the CIRCUIT with this TABLE, or None."""
    for place in range(len(table)):
        for other in range(len(table)):
            if lefts(table, place, other):
                return (place, other)
    return None


def table_helped(table):
    """What the TABLE makes of the places with 0 at the helper."""
    return tuple([row[::2] for row in table[::2]])


def helper_back(circuit):
    """Whether the CIRCUIT is back."""
    return least_left(circuit_table(circuit)) is None


def helped_table(circuit):
    """The TABLE of n wires that the CIRCUIT makes with a helper."""
    table = circuit_table(circuit)
    if least_left(table) is not None:
        raise Unfit()
    return table_helped(table)


def helper_left(circuit):
    """The least LEFT of the CIRCUIT."""
    left = least_left(circuit_table(circuit))
    if left is None:
        raise NoPaper()
    return left


def is_helper_left(circuit, thing):
    """Whether thing is a LEFT of the CIRCUIT."""
    if not are_below(thing, 1 << circuit[0], 2):
        return False
    return lefts(circuit_table(circuit), thing[0], thing[1])


def alone_turns(table):
    """The set of the m such that wires alone make it with the first row turned m times more."""
    turn, step = turn_and_step(table)
    return tuple([m for m in range(8) if (turn + m) % step == 0])


def controlled(table):
    """The TABLE of n + 1 wires that does it where wire 0 has 1."""
    wires_of_table(table)
    many = len(table)
    still = [row + (ZERO,) * many for row in still_table(many)]
    return tuple(still + [(ZERO,) * many + row for row in frozen(table)])


def gates_of_deed(n, deed):
    """A CIRCUIT of n wires that makes just what this DEED does."""
    check_places(1 << n, (deed,))
    if n == 1:
        return circuit_alone(deeds_table(2, (deed,)))
    if deed[0] == "turn" or n > 3:
        raise NoPaper()
    if deed[0] == "swap":
        return n, tuple(swap_gates(n, deed[1], deed[2]))
    return n, tuple(mix_gates(n, deed[1], deed[2]))


def two_turned(n, one, other):
    """A CIRCUIT of n wires that turns place one once and place other seven times."""
    for place in (one, other):
        if not 0 <= place < 1 << n:
            raise NoPlace(place)
    if one == other:
        raise Unfit()
    return n, tuple(pair_gates(n, one, other, 1))

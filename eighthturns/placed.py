"""Private: GATES that change two places alone, and GATES of a helper that turn just one."""

from eighthturns.circuits import circuit_back
from eighthturns.maps import turning_gates, wire_bit, wires_at

FLIP_WORDS = ("X", "CX", "CCX")
TWICE_WORDS = ("H", "X", "Z", "CX", "CCX", "CZ")


def gates_back(gates):
    """GATES of to 4 wires that take these back."""
    return list(circuit_back((4, tuple(gates)))[1])


def turned_wire(wire, many):
    """GATES that turn so many times what has 1 at this wire."""
    return turning_gates((wire,), many % 8)


def flip_gates(wires, wire):
    """GATES that do X at wire where all of these, to three, have 1; for three they turn places, too."""
    if len(wires) < 3:
        return [(FLIP_WORDS[len(wires)],) + wires + (wire,)]
    once, back, hat = turned_wire(wire, 1), turned_wire(wire, 7), [("H", wire)]
    outer = hat + once + [("CX", wires[2], wire)] + back + hat
    inner = [("CX", wires[0], wire)] + once + [("CX", wires[1], wire)] + back
    return outer + inner + inner + outer


def framed(n, one, other):
    """The pair (gates, wire): they bring both places to those with 1 at all wires, but one with 0 at this one."""
    unlike = wires_at(n, one ^ other)
    wire = unlike[-1]
    gates = [("CX", wire, own) for own in unlike[:-1]]
    # Behind these both have at the other wires the bits of the one with 0 at wire.
    bits = one if one & wire_bit(n, wire) == 0 else other
    turned_about = [own for own in range(n) if own != wire and bits & wire_bit(n, own) == 0]
    if bits != one:
        turned_about.append(wire)
    return gates + [("X", own) for own in turned_about], wire


def others_than(n, wire):
    """The wires of n but this one."""
    return tuple([own for own in range(n) if own != wire])


def swap_gates(n, one, other):
    """GATES of to 3 wires that swap both places."""
    ahead, wire = framed(n, one, other)
    return ahead + flip_gates(others_than(n, wire), wire) + gates_back(ahead)


def mix_gates(n, one, other):
    """GATES of to 3 wires that mix both places."""
    ahead, wire = framed(n, one, other)
    # Between these and what takes them back X comes to H.
    ahead = ahead + [("S", wire), ("H", wire), ("T", wire)]
    return ahead + flip_gates(others_than(n, wire), wire) + gates_back(ahead)


def pair_gates(n, one, other, many):
    """GATES of to 4 wires that turn one so many times and other as often the other way."""
    if many % 8 == 0:
        return []
    ahead, wire = framed(n, one, other)
    flips = flip_gates(others_than(n, wire), wire)
    turns = turned_wire(wire, -many) + flips + turned_wire(wire, many) + gates_back(flips)
    return ahead + turns + gates_back(ahead)


def last_gates(n, many):
    """GATES of 2 or 3 wires that turn the last place so many times, a multiple of 2 ** (n - 1)."""
    if many % 8 == 0:
        return []
    if n == 3:
        return [("H", 2), ("CCX", 0, 1, 2), ("H", 2)]
    both = turned_wire(0, many // 2) + turned_wire(1, many // 2)
    return both + [("CX", 0, 1)] + turned_wire(1, -(many // 2)) + [("CX", 0, 1)]


def helper_gates(n, many):
    """GATES of to 3 wires and a helper that turn, if that has 0, the last place so many times."""
    if many % 8 == 0:
        return []
    flips = flip_gates(tuple(range(n)), n)
    return flips + turned_wire(n, many) + gates_back(flips)


def gates_of_deeds(n, deeds):
    """GATES of 2 or 3 wires that make what these DEEDS do, if any do."""
    gates, owed = [], [0] * (1 << n)
    for deed in deeds:
        i, j = deed[1], deed[-1]
        if deed[0] == "turn":
            # One turn alone may be more than GATES can do: it is owed until
            # a mix asks for it, and paid then at a place nearby.
            owed[i] += 1
        elif deed[0] == "swap":
            gates.extend(swap_gates(n, i, j))
            owed[i], owed[j] = owed[j], owed[i]
        else:
            near = j ^ 1 if j ^ 1 != i else j ^ 2
            many = owed[j] - owed[i]
            gates.extend(pair_gates(n, j, near, many) + mix_gates(n, i, j))
            owed[near] += many
            owed[j] = owed[i]
    last = len(owed) - 1
    for place in range(last):
        gates.extend(pair_gates(n, place, last, owed[place]))
    return gates + last_gates(n, sum(owed) % 8)


def plain_gates(gates):
    """The GATES less two equal neighbours that take each other back."""
    left = []
    for gate in gates:
        if left[-1:] == [gate] and gate[0] in TWICE_WORDS:
            left.pop()
        else:
            left.append(gate)
    return tuple(left)

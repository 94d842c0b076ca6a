"""Private: the words of GATES, and on which places they do what."""

from eighthturns.errors import NoWire

GATE_WIRES = {"H": 1, "T": 1, "S": 1, "Z": 1, "X": 1, "CX": 2, "CCX": 3, "CZ": 2, "W": 0}
GATE_TURNS = {"T": 1, "S": 2, "Z": 4, "CZ": 4, "W": 1}
GATE_PAIRS = {"H": "mix", "X": "swap", "CX": "swap", "CCX": "swap"}


def check_wires(n, wires):
    """Raise NoWire for the first of these that is no wire of n."""
    for wire in wires:
        if not 0 <= wire < n:
            raise NoWire(wire)


def wire_bits(n, wires):
    """The place of n wires with 1 at just these."""
    return sum([1 << (n - 1 - wire) for wire in wires])


def places_with(n, wires):
    """The places of n wires with 1 at all of these, ascending."""
    bits = wire_bits(n, wires)
    return [place for place in range(1 << n) if place & bits == bits]


def pairs_of(n, wires):
    """The pairs of places that differ at the last of these wires alone, with 1 at the others."""
    bit = wire_bits(n, wires[-1:])
    return [(place, place + bit) for place in places_with(n, wires[:-1]) if place & bit == 0]

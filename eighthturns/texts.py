"""Texts: TABLES, DEEDS and CIRCUITS as lines, and what has a given text."""

from eighthturns.circuits import is_gate
from eighthturns.deeds import is_deed
from eighthturns.errors import BadLine
from eighthturns.figures import lines_of, number_read, number_text
from eighthturns.rays import is_ray


def joined_lines(lines):
    """The text with these lines."""
    return "\n".join(lines)


def words_text(thing):
    """The line of a DEED or a GATE: its word, then its numbers."""
    return " ".join([thing[0]] + [number_text(number) for number in thing[1:]])


def table_text(table):
    """The text of the TABLE."""
    words = [[",".join([number_text(number) for number in ray]) for ray in row] for row in table]
    return joined_lines([" ".join(row) for row in words])


def deeds_text(deeds):
    """The text of the DEEDS."""
    return joined_lines([words_text(deed) for deed in deeds])


def circuit_text(circuit):
    """The text of the CIRCUIT."""
    n, gates = circuit
    return joined_lines([words_text(thing) for thing in [("wires", n)] + list(gates)])


def row_read(line):
    """The tuple of the RAYS in this line, or None if some word is none."""
    rays = [tuple([number_read(part) for part in word.split(",")]) for word in line.split(" ")]
    return tuple(rays) if all([is_ray(ray) for ray in rays]) else None


def table_read(text):
    """The TABLE that has this text."""
    rows = []
    for number, line in enumerate(lines_of(text)):
        row = row_read(line)
        if row is None or len(row) < 2 or number >= len(row):
            raise BadLine(number)
        rows.append(row)
        if len(row) != len(rows[0]):
            raise BadLine(number)
    if len(rows) == 0 or len(rows) < len(rows[0]):
        raise BadLine(len(rows))
    return tuple(rows)


def thing_read(line):
    """The tuple of the first word and of the numbers behind it, None for one that is none."""
    words = line.split(" ")
    return (words[0],) + tuple([number_read(word) for word in words[1:]])


def numbers_end(thing):
    """One more than the greatest of the numbers behind the word, and 1 at least."""
    return max([0] + [number for number in thing[1:] if number is not None]) + 1


def deeds_read(text):
    """The DEEDS that have this text."""
    deeds = []
    for number, line in enumerate(lines_of(text)):
        deed = thing_read(line)
        if not is_deed(numbers_end(deed), deed):
            raise BadLine(number)
        deeds.append(deed)
    return tuple(deeds)


def wires_read(lines):
    """The number of wires that the first line tells."""
    first = thing_read(lines[0]) if len(lines) > 0 else ()
    if len(first) != 2 or first[0] != "wires" or first[1] is None or first[1] < 1:
        raise BadLine(0)
    return first[1]


def circuit_read(text):
    """The CIRCUIT that has this text."""
    lines = lines_of(text)
    n = wires_read(lines)
    gates = []
    for number, line in enumerate(lines[1:]):
        gate = thing_read(line)
        if not is_gate(n, gate):
            raise BadLine(number + 1)
        gates.append(gate)
    return n, tuple(gates)

"""[13]: marks.py, by all places and against another way to reckon."""

import itertools
import unittest

import drawn
import exact
import parities
from eighthturns.circuits import circuit_table, is_circuit
from eighthturns.errors import NoPaper, NoPlace, TooMany, Unfit
from eighthturns.marks import (bar_of_turns, circuit_of_marked, is_marked, is_marks_seen, is_turns_bar, is_uneven_sum,
                               marked_alike, marked_back, marked_of, marked_put, marked_table, marks_seen, place_led,
                               plain_marks, polynomial_of, turns_of, uneven_sum)
from eighthturns.tables import is_table

SIX = (0, (32, 16, 8, 4, 2, 1), 0, (0,) * 63)
STILL = [(0, tuple(2 ** (n - 1 - q) for q in range(n)), 0, (0,) * (2 ** n - 1)) for n in range(1, 6)]


def maps_drawn(seed, sizes=(1, 2, 3, 4, 5), many=6):
    draw = drawn.rng(seed)
    return [parities.marked(draw, n) for n in sizes for _ in range(many)] + STILL


def marks_drawn(seed, many=5):
    draw = drawn.rng(seed)
    found = [parities.marks(draw, n, most) for n in range(1, 6) for most in (1, 7) for _ in range(many)]
    for n in range(2, 6):
        # Four turns where two wires, where three wires all have 1.
        found.append((2, 2, 6) + (0,) * (2 ** n - 4))
        found.append(((1, 1, 7, 1, 7, 7, 1) + (0,) * (2 ** n - 8))[:2 ** n - 1])
    for n in range(1, 6):
        for zero in parities.zero_marks(n):
            found.append(zero)
            one = list(zero)
            one[draw.randrange(len(one))] = draw.choice((2, 4))
            found.append(tuple(one))
            found.append(tuple((mark + other) % 8 for mark, other in zip(parities.marks(draw, n), zero)))
    return found


def turns_drawn(seed, many=8):
    draw = drawn.rng(seed)
    found = [tuple(draw.randrange(8) for _ in range(2 ** n)) for n in range(1, 6) for _ in range(many)]
    for marks in marks_drawn(seed, 2):
        turn = draw.randrange(8)
        seen = [(turn + own) % 8 for own in parities.turns(marks)]
        found.append(tuple(seen))
        # One place turned otherwise; and all places with 1 at some wires.
        other = list(seen)
        other[draw.randrange(len(other))] += draw.choice((1, 2, 4))
        found.append(tuple(own % 8 for own in other))
        bits, times = draw.randrange(len(seen)), draw.choice((1, 2, 4))
        found.append(tuple((own + times * (place & bits == bits)) % 8 for place, own in enumerate(seen)))
    return found


def times_wanted(turns):
    """All pairs (wires, times) but those of times 0, by sums over the places with no other 1."""
    n = len(turns).bit_length() - 1
    found = []
    for wires in parities.wire_sets(n):
        total = 0
        for size in range(len(wires) + 1):
            for own in itertools.combinations(wires, size):
                total += (-1) ** (len(wires) - size) * turns[sum(2 ** (n - 1 - wire) for wire in own)]
        if total % 8:
            found.append((wires, total % 8))
    return found


def bars_wanted(turns):
    return [wires for wires, times in times_wanted(turns)
            if len(wires) == 2 and times % 2 or len(wires) == 3 and times % 4 or len(wires) > 3]


class Shapes(unittest.TestCase):
    def test_marked_maps_are_such(self):
        for marked in maps_drawn(1) + [SIX, (7, (1,), 1, (7,)), (0, tuple(2 ** (7 - q) for q in range(8)), 255, (3,) * 255)]:
            self.assertIs(is_marked(marked), True)

    def test_maps_by_which_two_places_come_to_one(self):
        for n in (1, 2, 3):
            for maps in itertools.product(range(2 ** n), repeat=n):
                self.assertIs(is_marked((0, maps, 0, (0,) * (2 ** n - 1))), parities.unlike(maps))
        draw = drawn.rng(2)
        for n in (4, 5, 6):
            for _ in range(60):
                maps = tuple(draw.randrange(2 ** n) for _ in range(n))
                self.assertIs(is_marked((0, maps, 0, (0,) * (2 ** n - 1))), parities.unlike(maps))

    def test_numbers_out_of_range(self):
        fine = (7, (2, 3), 3, (7, 0, 1))
        self.assertIs(is_marked(fine), True)
        for at, wrong in ((0, 8), (0, -1), (0, True), (0, None), (0, (1,)), (1, (2, 4)), (1, (2, 0)), (1, (2, 2)), (1, (2,)),
                          (1, [2, 3]), (1, (2, True)), (1, (2, -1)), (1, ()), (1, (3, 2, 1)), (1, "23"), (1, 2), (2, 4), (2, -1),
                          (2, False), (2, None), (3, (7, 0)), (3, (7, 0, 8)), (3, (7, 0, -1)), (3, [7, 0, 1]), (3, (7, False, 1)),
                          (3, (7, 0, 1, 0)), (3, ()), (3, None), (3, (7, 0, (1,))), (3, "701")):
            self.assertIs(is_marked(fine[:at] + (wrong,) + fine[at + 1:]), False, (at, wrong))

    def test_things_of_every_kind_are_none(self):
        fine = (0, (1,), 0, (0,))
        for thing in drawn.things() + [list(fine), fine[:3], fine + (0,), (fine,), (0, (), 0, ()), ((1,), 0, 0, (0,))]:
            self.assertIs(is_marked(thing), False, thing)
        for at in range(4):
            for part in drawn.things():
                thing = fine[:at] + (part,) + fine[at + 1:]
                wanted = at != 1 and at != 3 and part in (0, 1, 7) and not isinstance(part, bool) and (at == 0 or part < 2)
                wanted = wanted or at == 3 and repr(part) == "(0,)"
                self.assertIs(is_marked(thing), wanted, thing)


class Maps(unittest.TestCase):
    def test_places(self):
        for marked in maps_drawn(3):
            many = 2 ** parities.wires_of(marked)
            self.assertEqual(tuple(place_led(marked, place) for place in range(many)), parities.all_led(marked))
            for place in (-1, many, many + 5, -10 ** 9):
                with self.assertRaises(NoPlace) as caught:
                    place_led(marked, place)
                self.assertEqual(caught.exception.number, place)

    def test_tables(self):
        for marked in maps_drawn(4, (1, 2, 3)):
            table = marked_table(marked)
            self.assertTrue(is_table(table))
            self.assertEqual(exact.table_values(table), parities.led_values(parities.all_led(marked)))

    def by_hand(self, circuit):
        """The MARKED MAP, GATE by GATE as the document has it."""
        n, gates = circuit
        turn, flips, marks = 0, [0] * n, [0] * 2 ** n
        maps = [2 ** (n - 1 - q) for q in range(n)]
        for gate in gates:
            word, wires = gate[0], gate[1:]
            added = []
            if word == "W":
                turn += 1
            elif word == "X":
                flips[wires[0]] ^= 1
            elif word == "CX":
                maps[wires[1]] ^= maps[wires[0]]
                flips[wires[1]] ^= flips[wires[0]]
            elif word == "CZ":
                q, t = wires
                added = [(maps[q], flips[q], 2), (maps[t], flips[t], 2), (maps[q] ^ maps[t], flips[q] ^ flips[t], -2)]
            else:
                added = [(maps[wires[0]], flips[wires[0]], {"T": 1, "S": 2, "Z": 4}[word])]
            for y, about, eighths in added:
                turn += eighths * about
                marks[y] += -eighths if about else eighths
        bits = sum(2 ** (n - 1 - q) * flips[q] for q in range(n))
        return (turn % 8, tuple(maps), bits, tuple(mark % 8 for mark in marks[1:]))

    def test_of_circuits(self):
        draw = drawn.rng(5)
        for n in range(1, 6):
            for length in (0, 1, 1, 2, 3, 5, 9, 20, 60):
                circuit = parities.circuit(draw, n, length)
                marked = marked_of(circuit)
                self.assertIs(is_marked(marked), True)
                self.assertEqual(marked, self.by_hand(circuit))
                self.assertEqual(parities.all_led(marked), parities.circuit_led(circuit))
                if n <= 3:
                    self.assertEqual(marked_table(marked), circuit_table(circuit))

    def test_circuits_with_other_gates(self):
        for n, gate in ((1, ("H", 0)), (3, ("CCX", 0, 1, 2)), (5, ("H", 4))):
            for gates in ((gate,), (("T", 0), gate), (gate, ("W",))):
                with self.assertRaises(Unfit):
                    marked_of((n, gates))

    def test_put(self):
        for n in range(1, 6):
            ones, others = maps_drawn(6 + n, (n,)), maps_drawn(16 + n, (n,))
            for one, other in zip(ones[:6], others[:6]):
                put = marked_put(one, other)
                self.assertIs(is_marked(put), True)
                self.assertEqual(parities.all_led(put), parities.one_then(parities.all_led(one), parities.all_led(other)))
                self.assertEqual(marked_put(STILL[n - 1], one), one)
                self.assertEqual(marked_put(one, STILL[n - 1]), one)

    def test_put_as_gates_behind_one_another(self):
        draw = drawn.rng(7)
        for n in range(1, 6):
            for _ in range(5):
                one, other = [parities.circuit(draw, n, draw.randint(0, 12)) for _ in range(2)]
                self.assertEqual(marked_put(marked_of(one), marked_of(other)), marked_of((n, one[1] + other[1])))

    def test_back(self):
        for marked in maps_drawn(8):
            back = marked_back(marked)
            self.assertIs(is_marked(back), True)
            self.assertEqual(marked_put(marked, back), STILL[parities.wires_of(marked) - 1])
            self.assertEqual(parities.all_led(back), parities.back(parities.all_led(marked)))
            self.assertEqual(parities.all_led(marked_put(back, marked)), parities.all_led(STILL[parities.wires_of(marked) - 1]))

    def test_alike(self):
        draw = drawn.rng(9)
        for marked in maps_drawn(9):
            turn, maps, flips, marks = marked
            n = len(maps)
            for zero in parities.zero_marks(n):
                other = (turn, maps, flips, tuple((mark + own) % 8 for mark, own in zip(marks, zero)))
                self.assertIs(marked_alike(marked, other), True)
                self.assertIs(marked_alike(other, marked), True)
            for other in (((turn + 4) % 8, maps, flips, marks), (turn, maps, flips ^ 1, marks), (turn, maps[::-1], flips, marks),
                          (turn, maps, flips, parities.marks(draw, n)),
                          (turn, maps, flips, marks[:-1] + ((marks[-1] + 4) % 8,))):
                self.assertIs(marked_alike(marked, other), parities.all_led(marked) == parities.all_led(other))


class Sums(unittest.TestCase):
    def test_turns(self):
        for marks in marks_drawn(10):
            self.assertEqual(turns_of(marks), parities.turns(marks))

    def test_zero_exactly_without_a_sum(self):
        seen = set()
        for marks in marks_drawn(11):
            sums = parities.sums(marks)
            self.assertEqual(not any(parities.turns(marks)), not sums)
            if sums:
                seen.add(len(sums[0][0]))
                self.assertEqual(uneven_sum(marks), sums[0])
            else:
                seen.add("some" if any(marks) else "none")
                with self.assertRaises(NoPaper):
                    uneven_sum(marks)
        self.assertEqual(seen, {1, 2, 3, "some", "none"})

    def test_which_are_sums(self):
        for marks in marks_drawn(12, 2):
            sums, n = parities.sums(marks), len(marks).bit_length()
            for wires in parities.wire_sets(n):
                for rest in range(-1, 9):
                    self.assertIs(is_uneven_sum(marks, (wires, rest)), (wires, rest) in sums)

    def test_things_of_every_kind_are_no_sums(self):
        marks = (1, 1, 7)
        self.assertIs(is_uneven_sum(marks, ((0, 1), 3)), True)
        more = [[(0, 1), 3], ([0, 1], 3), ((1, 0), 3), ((0, 1), 7), ((0, 1), 3, 0), ((0, 1),), ((False, 1), 3), ((0, 1), True),
                ((0, 0), 0), ((), 0), ((0,), 0), ((0, 1, 2), 1), ((0, 2), 1), ((0, -1), 3), ("01", 3), ((0, 1), "3"), (0, 3),
                ((0, 1), None), (((0,), 1), 3), ((0, 1), (3,))]
        for thing in drawn.things() + more:
            self.assertIs(is_uneven_sum(marks, thing), False, thing)
        self.assertIs(is_uneven_sum((1,), ((0,), 1)), True)
        self.assertIs(is_uneven_sum((1,), ((False,), 1)), False)
        self.assertIs(is_uneven_sum((1,), ((0,), True)), False)
        for thing in drawn.things():
            self.assertIs(is_uneven_sum((0, 0, 0), thing), False)


class Turns(unittest.TestCase):
    def test_polynomials(self):
        for turns in turns_drawn(13):
            found = polynomial_of(turns)
            self.assertIsInstance(found, list)
            self.assertEqual(found, times_wanted(turns))
            n = len(turns).bit_length() - 1
            for place in range(2 ** n):
                ones = [wire for wire in range(n) if place & 2 ** (n - 1 - wire)]
                there = [times for wires, times in found if all(wire in ones for wire in wires)]
                self.assertEqual(sum(there) % 8, turns[place])
        self.assertEqual(polynomial_of((0, 0)), [])
        self.assertEqual(polynomial_of((5, 5)), [((), 5)])

    def assert_plain(self, marks):
        for y, mark in enumerate(marks, 1):
            self.assertTrue(0 <= mark < {1: 8, 2: 4, 3: 2}.get(bin(y).count("1"), 1))

    def test_plain_marks(self):
        for marks in marks_drawn(14):
            plain = plain_marks(marks)
            self.assertIsInstance(plain, tuple)
            self.assertEqual(len(plain), len(marks))
            self.assert_plain(plain)
            self.assertEqual(parities.turns(plain), parities.turns(marks))
            self.assertEqual(plain_marks(plain), plain)

    def test_seen_or_barred_never_both(self):
        seen = set()
        for turns in turns_drawn(15):
            bars = bars_wanted(turns)
            seen.add(min(len(bars[0]), 4) if bars else 0)
            if bars:
                self.assertEqual(bar_of_turns(turns), bars[0])
                with self.assertRaises(NoPaper):
                    marks_seen(turns)
            else:
                with self.assertRaises(NoPaper):
                    bar_of_turns(turns)
                turn, marks = marks_seen(turns)
                self.assert_plain(marks)
                self.assertEqual(tuple((turn + own) % 8 for own in parities.turns(marks)), turns)
                self.assertIs(is_marks_seen(turns, (turn, marks)), True)
        self.assertEqual(seen, {0, 2, 3, 4})

    def test_which_are_seen(self):
        draw = drawn.rng(16)
        for marks in marks_drawn(16):
            turn = draw.randrange(8)
            turns = tuple((turn + own) % 8 for own in parities.turns(marks))
            self.assertIs(is_marks_seen(turns, (turn, marks)), True)
            self.assertIs(is_marks_seen(turns, (turn + 8, marks)), False)
            self.assertIs(is_marks_seen(turns, ((turn + 1) % 8, marks)), False)
            self.assertIs(is_marks_seen(turns, (turn, marks + (0,))), False)
            self.assertIs(is_marks_seen(turns, (turn, (marks[0] + 8,) + marks[1:])), False)
            self.assertIs(is_marks_seen(turns, (turn, list(marks))), False)
            self.assertIs(is_marks_seen(turns, [turn, marks]), False)
            self.assertIs(is_marks_seen(turns, (turn, plain_marks(marks))), True)
            other = parities.marks(draw, len(marks).bit_length())
            self.assertIs(is_marks_seen(turns, (turn, other)), parities.turns(other) == parities.turns(marks))

    def test_which_bar(self):
        for turns in turns_drawn(17, 3):
            bars = bars_wanted(turns)
            for wires in parities.wire_sets(len(turns).bit_length() - 1):
                self.assertIs(is_turns_bar(turns, wires), wires in bars)

    def test_things_of_every_kind_are_none(self):
        turns = (0, 1, 1, 0)
        more = [(False, (0, 0, 1)), (0, (0, 0, True)), (0, (0, 0, 1), 0), (0,), (0, [0, 0, 1]), (0, (0, 0)), ("0", (0, 0, 1)),
                (None, (0, 0, 1)), ((0,), (0, 0, 1)), ((0, 0, 1), 0), (0, "001"), (0, (0, 0, None)), (0, (-8, 0, 1))]
        for thing in drawn.things() + more:
            self.assertIs(is_marks_seen(turns, thing), False, thing)
        barred = (0, 0, 0, 1)
        self.assertIs(is_turns_bar(barred, (0, 1)), True)
        more = [(1, 0), [0, 1], (False, True), (0, True), (0, 1, 2), (0,), ((0, 1),), (0, "1"), (-1, 0), (0, 2), (0, 1, 1), (0, None)]
        for thing in drawn.things() + more:
            self.assertIs(is_turns_bar(barred, thing), False, thing)
            self.assertIs(is_turns_bar(turns, thing), False, thing)


class Circuits(unittest.TestCase):
    def test_of_marked_maps(self):
        draw = drawn.rng(18)
        more = [marked_of(parities.circuit(draw, n, 30)) for n in range(1, 6) for _ in range(3)]
        for marked in maps_drawn(18) + more:
            circuit = circuit_of_marked(marked)
            self.assertTrue(is_circuit(circuit))
            self.assertEqual(circuit[0], parities.wires_of(marked))
            words = [gate[0] for gate in circuit[1]]
            self.assertTrue(set(words) <= {"W", "X", "CX", "T", "S", "Z"})
            self.assertEqual(words.count("T"), sum(mark % 2 for mark in marked[3]))
            self.assertEqual(marked_of(circuit), marked)
            self.assertEqual(parities.circuit_led(circuit), parities.all_led(marked))
            self.assertEqual(circuit_of_marked(marked), circuit)


class Bounds(unittest.TestCase):
    def test_too_many_wires_ahead_of_all_else(self):
        marks, turns = (0,) * 63, (0,) * 64
        two = (0, (2, 1), 0, (0, 0, 0))
        calls = [(place_led, SIX, 0), (place_led, SIX, 64), (marked_table, SIX), (marked_of, (6, ())), (marked_of, (6, (("H", 0),))),
                 (marked_put, SIX, SIX), (marked_put, SIX, two), (marked_put, two, SIX), (marked_back, SIX), (marked_alike, SIX, SIX),
                 (marked_alike, two, SIX), (marked_alike, SIX, two), (uneven_sum, marks), (uneven_sum, (1,) * 63),
                 (is_uneven_sum, marks, None), (is_uneven_sum, marks, ((0,), 1)), (turns_of, marks), (polynomial_of, turns),
                 (plain_marks, marks), (marks_seen, turns), (marks_seen, (0,) * 63 + (1,)), (is_marks_seen, turns, (0, marks)),
                 (is_marks_seen, turns, None), (bar_of_turns, turns), (is_turns_bar, turns, None), (circuit_of_marked, SIX)]
        for function, *args in calls:
            with self.assertRaises(TooMany):
                function(*args)
        self.assertIs(is_marked(SIX), True)

    def test_unlike_wires_are_unfit(self):
        for one, other in itertools.permutations(STILL, 2):
            for function in (marked_put, marked_alike):
                with self.assertRaises(Unfit):
                    function(one, other)

    def test_five_wires(self):
        draw = drawn.rng(19)
        marks = parities.marks(draw, 5)
        self.assertEqual(turns_of(marks), parities.turns(marks))
        self.assertEqual(polynomial_of((1,) * 32), [((), 1)])
        self.assertEqual(bar_of_turns((0,) * 31 + (4,)), (0, 1, 2, 3, 4))


if __name__ == "__main__":
    unittest.main()

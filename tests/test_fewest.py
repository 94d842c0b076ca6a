"""[14]: fewest.py, by all CODE ROWS, by search and against another way to reckon."""

import itertools
import math
import unittest

import drawn
import parities
from eighthturns.circuits import is_circuit
from eighthturns.errors import NoPaper, TooMany, Unfit
from eighthturns.fewest import (code_rows, distances, eighths_needed, eighths_of, fewest_circuit, fewest_marked, hardest_row,
                                is_code_row, is_distances, is_fewest, is_fewest_circuit, is_quarter_map, merged_off,
                                nearest_rows, needed_between, needing_many, odd_row, quarter_circuit, saved)
from eighthturns.marks import is_marked, marked_back, marked_of, marked_put

STILL = [(0, tuple(2 ** (n - 1 - q) for q in range(n)), 0, (0,) * (2 ** n - 1)) for n in range(1, 6)]
SIX = (0, (32, 16, 8, 4, 2, 1), 0, (0,) * 63)
# Zero MARKS with 0 and 1 alone, by search for to 4 wires, by the document's words for 5.
ROWS = {n: [row for row in itertools.product((0, 1), repeat=2 ** n - 1) if not any(parities.turns(row))] for n in (1, 2, 3)}
ROWS[4] = [(0,) * 15, (1,) * 15]
ROWS[5] = sorted(tuple(parities.parity(number, y) ^ about for y in range(1, 32)) for number in range(32) for about in (0, 1))


def maps_drawn(seed, many=6):
    draw = drawn.rng(seed)
    found = list(STILL)
    for n in range(1, 6):
        for at in range(many):
            turn, maps, flips, marks = parities.marked(draw, n)
            row = draw.choice(ROWS[n])
            if at % 3 == 0:
                marks = tuple(2 * draw.randrange(4) for _ in marks)
            if at % 3 < 2:
                marks = tuple((mark + odd) % 8 for mark, odd in zip(marks, row))
            found.append((turn, maps, flips, marks))
    return found


def circuits_drawn(seed, words="W X CX CX T T S Z CZ"):
    draw = drawn.rng(seed)
    return [parities.circuit(draw, n, length, words) for n in range(1, 6) for length in (0, 1, 2, 4, 9, 25, 60)]


def odd_many(marks):
    return sum(mark % 2 for mark in marks)


def wanted_distances(marks):
    rows = ROWS[len(marks).bit_length()]
    return tuple(sum(mark % 2 != own for mark, own in zip(marks, row)) for row in rows)


def needed(marked):
    return min(wanted_distances(marked[3]))


class Rows(unittest.TestCase):
    def test_code_rows(self):
        self.assertEqual([len(ROWS[n]) for n in (1, 2, 3)], [1, 1, 1])
        for n in range(1, 6):
            self.assertEqual(code_rows(n), tuple(ROWS[n]))
            self.assertEqual(list(code_rows(n)), sorted(set(code_rows(n))))
            for row in code_rows(n):
                self.assertFalse(any(parities.turns(row)))
                self.assertIs(is_code_row(row), True)

    def test_the_four_wires_have_two_alone(self):
        # A row with just some odd marks is zero only if each SUM comes out even.
        draw = drawn.rng(1)
        for _ in range(300):
            row = parities.marks(draw, 4, 1)
            self.assertIs(is_code_row(row), row in ROWS[4])
        for n in (1, 2, 3):
            for row in itertools.product((0, 1), repeat=2 ** n - 1):
                self.assertIs(is_code_row(row), row in ROWS[n])

    def test_all_odd_rows_of_zero_marks(self):
        draw = drawn.rng(2)
        for n in (4, 5):
            for zero in parities.zero_marks(n):
                self.assertIn(odd_row(zero), ROWS[n])
        for row in ROWS[5]:
            bent = list(row)
            bent[draw.randrange(31)] ^= 1
            self.assertIs(is_code_row(tuple(bent)), False)
            self.assertIs(is_code_row(row + (0,) * 32), False)

    def test_as_many_as_there_are_odd_rows_with_even_sums(self):
        for n in range(1, 6):
            sums = []
            for wires in parities.wire_sets(n):
                if 1 <= len(wires) <= 3:
                    bits = sum(2 ** wire for wire in wires)
                    sums.append(sum(2 ** y for y in range(1, 2 ** n) if y & bits == bits))
            unlike = []
            for row in sums:
                for other in unlike:
                    row = min(row, row ^ other)
                unlike += [row] if row else []
            self.assertEqual(len(code_rows(n)), 2 ** (2 ** n - 1 - len(unlike)))

    def test_things_of_every_kind_are_no_rows(self):
        more = [(0,) * 63, (False,) * 3, (0, 0, True), (1,) * 14, (1,) * 14 + (True,), [0, 0, 0], (0, 0), (2, 0, 0), (0, 0, 8), (0, 0, None),
                (2,) * 15, (-1,) * 15, (0,) * 127, (1,) * 63, "000", ((0,),), (0, 0, "0"), (0,) * 30]
        for thing in drawn.things() + more:
            self.assertIs(is_code_row(thing), repr(thing) == "(0,)", thing)

    def test_odd_rows(self):
        for marked in maps_drawn(3):
            self.assertEqual(odd_row(marked[3]), tuple(mark % 2 for mark in marked[3]))


class Needed(unittest.TestCase):
    def test_distances(self):
        for marked in maps_drawn(4):
            marks = marked[3]
            wanted = wanted_distances(marks)
            self.assertEqual(distances(marks), wanted)
            self.assertEqual(eighths_needed(marked), min(wanted))
            self.assertIs(is_quarter_map(marked), min(wanted) == 0)
            self.assertIs(is_distances(marks, min(wanted), wanted), True)
            self.assertIs(is_distances(marks, min(wanted) + 1, wanted), False)
            self.assertIs(is_distances(marks, max(wanted) + 1, wanted), False)
            self.assertIs(is_distances(marks, min(wanted), wanted + (99,)), False)
            self.assertIs(is_distances(marks, min(wanted), wanted[:-1] + (wanted[-1] + 1,)), False)
            self.assertIs(is_distances(marks, min(wanted), list(wanted)), False)
            rows = [row for row, own in zip(ROWS[len(marks).bit_length()], wanted) if own == min(wanted)]
            self.assertEqual(nearest_rows(marks), tuple(rows))

    def test_several_nearest_rows(self):
        # Of 4 wires rows with 7 and 8 odd marks have one nearest row each; of 5 wires there may be many.
        draw = drawn.rng(5)
        many = {len(nearest_rows(parities.marks(draw, 5))) for _ in range(40)}
        self.assertTrue(len(many) > 1)
        for _ in range(40):
            marked = parities.marked(draw, 5)
            fewer = [tuple((mark - own) % 8 for mark, own in zip(marked[3], row)) for row in nearest_rows(marked[3])]
            self.assertEqual(fewest_marked(marked), marked[:3] + (min(fewer),))

    def test_fewest_marked(self):
        for marked in maps_drawn(6):
            fewest = fewest_marked(marked)
            self.assertIs(is_marked(fewest), True)
            self.assertEqual(fewest[:3], marked[:3])
            self.assertEqual(parities.all_led(fewest), parities.all_led(marked))
            self.assertEqual(odd_many(fewest[3]), needed(marked))
            rows = [row for row in ROWS[len(marked[1])]
                    if sum(mark % 2 != own for mark, own in zip(marked[3], row)) == needed(marked)]
            self.assertEqual(fewest[3], min(tuple((mark - own) % 8 for mark, own in zip(marked[3], row)) for row in rows))
            self.assertIs(is_fewest(marked, fewest), True)

    def test_which_are_fewest(self):
        draw = drawn.rng(7)
        for marked in maps_drawn(7):
            turn, maps, flips, marks = marked
            n = len(maps)
            for own in parities.zero_marks(n):
                other = (turn, maps, flips, tuple((mark + zero) % 8 for mark, zero in zip(marks, own)))
                self.assertIs(is_fewest(marked, other), odd_many(other[3]) == needed(marked))
            fewest = fewest_marked(marked)
            for other in (((turn + 1) % 8,) + fewest[1:], fewest[:2] + (flips ^ 1, fewest[3]), fewest[:3] + (list(fewest[3]),),
                          list(fewest), fewest[:3] + (parities.marks(draw, n),), fewest[:3], STILL[n % 5], SIX,
                          fewest[:3] + ((fewest[3][0] + 8,) + fewest[3][1:],)):
                right = is_marked(other) and len(other[1]) == n and parities.all_led(other) == parities.all_led(marked)
                self.assertIs(is_fewest(marked, other), right and odd_many(other[3]) == needed(marked))

    def test_the_fewest_by_search(self):
        # All odd rows that make the same are those that differ by a CODE ROW; of 1 and 2 wires by all MARKS.
        for n in (1, 2):
            least = {}
            for marks in itertools.product(range(8), repeat=2 ** n - 1):
                key = parities.turns(marks)
                least[key] = min(least.get(key, 99), odd_many(marks))
            for marks in itertools.product(range(8), repeat=2 ** n - 1):
                self.assertEqual(eighths_needed(STILL[n - 1][:3] + (marks,)), least[parities.turns(marks)])

    def test_things_of_every_kind_are_none(self):
        quad = (0, (8, 4, 2, 1), 0, (1,) * 15)
        for thing in drawn.things() + [(True, 15), (15, False), (0, 15), (15,), [15, 0], (15, 0, 0), ("15", 0), (15, None)]:
            self.assertIs(is_distances(quad[3], 0, thing), False, thing)
            self.assertIs(is_fewest(quad, thing), False, thing)
        self.assertIs(is_distances((1,), 1, (1,)), True)
        self.assertIs(is_distances((1,), 1, (True,)), False)


class Circuits(unittest.TestCase):
    def test_eighths_of_any_circuit(self):
        draw = drawn.rng(8)
        for n in (1, 2, 3, 6):
            for length in (0, 1, 5, 60):
                circuit = drawn.circuit(draw, n, length)
                self.assertEqual(eighths_of(circuit), sum(gate[0] == "T" for gate in circuit[1]))

    def test_fewest_circuits(self):
        for circuit in circuits_drawn(9):
            marked = marked_of(circuit)
            fewest = fewest_circuit(circuit)
            self.assertTrue(is_circuit(fewest) and fewest[0] == circuit[0])
            self.assertTrue({gate[0] for gate in fewest[1]} <= set(parities.MAP_WORDS))
            self.assertEqual(parities.circuit_led(fewest), parities.circuit_led(circuit))
            self.assertEqual(eighths_of(fewest), needed(marked))
            self.assertIs(is_fewest_circuit(circuit, fewest), True)
            self.assertIs(is_fewest_circuit(circuit, circuit), eighths_of(circuit) == needed(marked))
            self.assertEqual(fewest_circuit(circuit), fewest)
            self.assertEqual(saved(circuit), eighths_of(circuit) - needed(marked))
            self.assertEqual(merged_off(circuit), eighths_of(circuit) - odd_many(marked[3]))
            self.assertTrue(0 <= merged_off(circuit) <= saved(circuit))

    def test_other_circuits_are_right_too(self):
        one = (1, (("T", 0), ("S", 0), ("T", 0)))
        for gates, wanted in (((("Z", 0),), True), ((("S", 0), ("S", 0)), True), ((("X", 0), ("Z", 0), ("X", 0), ("W",)), False),
                              ((("X", 0), ("Z", 0), ("X", 0)) + (("W",),) * 4, True), ((("T", 0),) * 4, False), ((), False),
                              ((("H", 0), ("X", 0), ("H", 0)), False), ((("Z", 1),), False), ([("Z", 0)], False)):
            self.assertIs(is_fewest_circuit(one, (1, gates)), wanted, gates)
        self.assertIs(is_fewest_circuit(one, (2, (("Z", 0),))), False)
        self.assertIs(is_fewest_circuit(one, [1, (("Z", 0),)]), False)
        self.assertIs(is_fewest_circuit((2, (("CZ", 0, 1),)), (2, (("CZ", 1, 0),))), True)
        for thing in drawn.things() + [(("Z", 0),), (1,), (1, (("Z", 0),), 0), (True, (("Z", 0),)), (1, (("Z", False),)), (6, ())]:
            self.assertIs(is_fewest_circuit(one, thing), False, thing)

    def test_merged_alone(self):
        # The two T stand at one parity; the fifteen of 4 wires each at another one.
        self.assertEqual((merged_off((2, (("T", 0), ("CX", 1, 0), ("CX", 1, 0), ("T", 0)))), saved((1, (("T", 0),)))), (2, 0))
        gates = fewest_circuit((4, ()))[1]
        self.assertEqual(eighths_of((4, gates)), 0)
        draw = drawn.rng(10)
        steps = []
        for y in range(1, 16):
            wires = [wire for wire in range(4) if y & 2 ** (3 - wire)]
            ahead = [("CX", wire, wires[-1]) for wire in wires[:-1]]
            steps.append(ahead + [("T", wires[-1])] + ahead[::-1])
        draw.shuffle(steps)
        circuit = (4, tuple(gate for step in steps for gate in step))
        self.assertEqual((eighths_of(circuit), merged_off(circuit), saved(circuit)), (15, 0, 15))

    def test_quarter_circuits(self):
        seen = set()
        for marked in maps_drawn(11):
            seen.add(needed(marked) == 0)
            if needed(marked) > 0:
                with self.assertRaises(NoPaper):
                    quarter_circuit(marked)
            else:
                circuit = quarter_circuit(marked)
                self.assertTrue(is_circuit(circuit) and circuit[0] == len(marked[1]))
                self.assertTrue({gate[0] for gate in circuit[1]} <= {"W", "X", "CX", "S", "Z", "CZ"})
                self.assertEqual(parities.circuit_led(circuit), parities.all_led(marked))
                self.assertEqual(quarter_circuit(marked), circuit)
        self.assertEqual(seen, {True, False})

    def test_other_gates_are_unfit(self):
        for n, gate in ((1, ("H", 0)), (3, ("CCX", 0, 1, 2))):
            circuit = (n, (("T", 0), gate))
            for function, *args in ((fewest_circuit,), (merged_off,), (saved,), (is_fewest_circuit, None), (is_fewest_circuit, circuit)):
                with self.assertRaises(Unfit):
                    function(circuit, *args)
            self.assertEqual(eighths_of(circuit), 1)


class Between(unittest.TestCase):
    def test_needed_between(self):
        draw = drawn.rng(12)
        for n in range(1, 6):
            for _ in range(6):
                one, other, third = [parities.marked(draw, n) for _ in range(3)]
                way = marked_put(marked_back(one), other)
                self.assertEqual(parities.one_then(parities.all_led(one), parities.all_led(way)), parities.all_led(other))
                self.assertEqual(needed_between(one, other), needed(way))
                self.assertTrue(needed_between(one, third) <= needed_between(one, other) + needed_between(other, third))
                self.assertEqual(needed_between(one, one), 0)
                self.assertEqual(needed_between(other, one), needed_between(one, other))
                self.assertEqual(needed_between(STILL[n - 1], one), needed(one))

    def test_one_is_turned_about(self):
        # Behind one the place is another, so the marks of both are put together by parities there.
        one = (0, (3, 1), 0, (0, 0, 0))
        other = (0, (3, 1), 0, (0, 1, 0))
        self.assertEqual(needed_between(one, other), 1)
        self.assertEqual(needed_between((0, (2, 1), 3, (1, 0, 0)), (0, (1, 2), 0, (1, 0, 2))), 0)


class Counted(unittest.TestCase):
    def test_by_all_rows(self):
        for n in (1, 2, 3):
            weights = [sum(row) for row in itertools.product((0, 1), repeat=2 ** n - 1)]
            for many in range(-1, 2 ** n + 2):
                self.assertEqual(needing_many(n, many), weights.count(many))
            self.assertEqual(hardest_row(n), (2 ** n - 1, (1,) * (2 ** n - 1)))

    def test_of_four_wires(self):
        needs, hardest = {}, None
        for row in itertools.product((0, 1), repeat=15):
            own = min(sum(row), 15 - sum(row))
            needs[own] = needs.get(own, 0) + 1
            if own == 7 and hardest is None:
                hardest = row
        for many in range(-1, 17):
            self.assertEqual(needing_many(4, many), needs.get(many, 0) // 2)
        self.assertEqual(hardest_row(4), (7, hardest))
        self.assertEqual(sum(needing_many(4, many) for many in range(16)), 2 ** 14)

    def numbers_of_rows(self):
        return [int("".join(map(str, row)), 2) for row in ROWS[5]]

    def test_of_five_wires(self):
        needs = [needing_many(5, many) for many in range(-1, 33)]
        self.assertEqual(needs[:10], [0] + [math.comb(31, many) for many in range(8)] + [needs[9]])
        self.assertEqual(needs[13:], [0] * 21)
        self.assertEqual(sum(needs), 2 ** 25)
        draw, codes, many = drawn.rng(31), self.numbers_of_rows(), 40000
        seen = [0] * 32
        for _ in range(many):
            row = draw.getrandbits(31)
            seen[min((row ^ code).bit_count() for code in codes)] += 1
        for needed, own in enumerate(seen):
            self.assertAlmostEqual(own / many, needing_many(5, needed) / 2 ** 25, delta=0.01)

    def test_the_hardest_row_of_five_wires(self):
        most, row = hardest_row(5)
        self.assertEqual((most, len(row), set(row)), (11, 31, {0, 1}))
        self.assertEqual(min(distances(row)), 11)
        codes = self.numbers_of_rows()
        for number in range(int("".join(map(str, row)), 2)):
            self.assertTrue(any((number ^ code).bit_count() < 11 for code in codes))


class Bounds(unittest.TestCase):
    def test_too_many_wires_ahead_of_all_else(self):
        two = (0, (2, 1), 0, (0, 0, 0))
        marks = (0,) * 63
        calls = [(odd_row, marks), (code_rows, 6), (code_rows, 60), (eighths_needed, SIX), (distances, marks), (is_distances, marks, 0, None),
                 (nearest_rows, marks), (fewest_marked, SIX), (is_fewest, SIX, None), (is_fewest, SIX, SIX), (fewest_circuit, (6, ())),
                 (fewest_circuit, (6, (("H", 0),))), (is_fewest_circuit, (6, (("H", 0),)), None), (is_fewest_circuit, (6, ()), (6, ())),
                 (merged_off, (6, ())), (merged_off, (6, (("H", 0),))), (saved, (6, ())), (saved, (6, (("H", 0),))), (is_quarter_map, SIX),
                 (quarter_circuit, SIX), (quarter_circuit, SIX[:3] + ((1,) + (0,) * 62,)), (needed_between, SIX, SIX),
                 (needed_between, SIX, two), (needed_between, two, SIX), (needing_many, 6, 0), (needing_many, 6, -1), (needing_many, 60, 1), (hardest_row, 6), (hardest_row, 60)]
        for function, *args in calls:
            with self.assertRaises(TooMany):
                function(*args)
        self.assertEqual(eighths_of((6, (("T", 5), ("H", 0)))), 1)
        self.assertIs(is_code_row(marks), False)

    def test_unlike_wires_are_unfit(self):
        for one, other in itertools.permutations(STILL, 2):
            with self.assertRaises(Unfit):
                needed_between(one, other)


if __name__ == "__main__":
    unittest.main()

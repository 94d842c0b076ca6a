"""[6]: circuits.py, against another way to reckon."""

import itertools
import unittest

import drawn
import exact
from eighthturns.circuits import (circuit_back, circuit_table, circuits_alike, circuits_like, gate_table, is_circuit,
                                  is_gate, is_parting_pair, is_parting_place, parting_pair, parting_place, put_behind,
                                  run_state, wires_moved)
from eighthturns.deeds import deeds_done
from eighthturns.errors import NoPaper, NoWire, Unfit
from eighthturns.states import is_state
from eighthturns.tables import is_table, is_upright, still_table, table_product

ONE, ZERO = drawn.ONE, drawn.ZERO
EMPTY = [(n, ()) for n in (1, 2, 3)]


def circuits(seed, lengths=(0, 1, 2, 10, 60), wires=(1, 2, 3)):
    draw = drawn.rng(seed)
    return [drawn.circuit(draw, n, length) for n in wires for length in lengths]


def all_gates(n):
    return [(word, *wires) for word, many in drawn.GATE_WORDS.items() for wires in itertools.permutations(range(n), many)]


def near_pairs(seed):
    """Pairs of CIRCUITS that are alike, like, or part in few places."""
    draw = drawn.rng(seed)
    found = []
    for circuit in circuits(seed, (0, 2, 8)):
        n, gates = circuit
        for extra in [(), (("W",),), (("W",),) * 8, (("Z", 0),), (("X", n - 1),), drawn.circuit(draw, n, 2)[1],
                      (("H", 0), ("H", 0)), (("T", n - 1), ("W",)), tuple([("CZ", 0, 1)] if n > 1 else [])]:
            found.append((circuit, (n, extra + gates)))
            found.append(((n, gates + extra), circuit))
    return found


class Shapes(unittest.TestCase):
    def test_gates_are_gates(self):
        for n in (1, 2, 3, 5):
            for gate in all_gates(n):
                self.assertIs(is_gate(n, gate), True)
        self.assertIs(is_gate(10 ** 6, ("CX", 10 ** 6 - 1, 0)), True)

    def test_just_these(self):
        wires = (-1, 0, 1, 2, True, "0")
        for word in list(drawn.GATE_WORDS) + ["h", "CH", "", "TT", "turn"]:
            for length in range(4):
                for told in itertools.product(wires, repeat=length):
                    plain = all(isinstance(wire, int) and wire is not True and 0 <= wire < 2 for wire in told)
                    unlike = len({repr(wire) for wire in told}) == length
                    wanted = plain and unlike and drawn.GATE_WORDS.get(word) == length
                    self.assertIs(is_gate(2, (word, *told)), wanted, (word, told))

    def test_things_of_every_kind_are_no_gates(self):
        more = [["H", 0], ("H", [0]), ("H", (0,)), ("H",), ("W", 0), "H", "W", (["H"], 0), (("H",), 0), (None,), ("H", None)]
        for thing in drawn.things() + more:
            self.assertIs(is_gate(2, thing), False, thing)

    def test_circuits_are_circuits(self):
        for circuit in circuits(1) + EMPTY + [(1000, ()), (1000, (("CX", 999, 0),) * 100)]:
            self.assertIs(is_circuit(circuit), True)

    def test_things_of_every_kind_are_no_circuits(self):
        more = [(0, ()), (-1, ()), (True, ()), (1, []), [1, ()], (1, (["H", 0],)), (1, (("H", 1),)), (1, ("H", 0)), (1,),
                (1, (), ()), ("1", ()), (None, ()), (2, (("CX", 0, 0),)), (1, (("W",), ("CZ", 0, 1))), (1, None), ((), 1)]
        for thing in drawn.things() + more:
            self.assertIs(is_circuit(thing), False, thing)


class Tables(unittest.TestCase):
    def test_each_gate(self):
        for n in (1, 2, 3):
            for gate in all_gates(n):
                self.assertEqual(exact.table_values(gate_table(n, gate)), exact.circuit_values((n, (gate,))))

    def test_wires_that_are_not_there(self):
        for n, gate, number in [(1, ("H", 1), 1), (2, ("CX", 7, 5), 7), (2, ("CX", 1, 2), 2), (2, ("CCX", 1, -4, 9), -4),
                                (3, ("CZ", -1, 3), -1), (1, ("CCX", 0, 1, 2), 1)]:
            with self.assertRaises(NoWire) as caught:
                gate_table(n, gate)
            self.assertEqual(caught.exception.number, number)

    def test_circuits(self):
        for circuit in circuits(2):
            table = circuit_table(circuit)
            self.assertTrue(is_table(table) and is_upright(table))
            self.assertEqual(exact.table_values(table), exact.circuit_values(circuit))
        for n, gates in EMPTY:
            self.assertEqual(circuit_table((n, gates)), still_table(2 ** n))

    def test_run(self):
        draw = drawn.rng(3)
        for circuit in circuits(3):
            many = 2 ** circuit[0]
            state = deeds_done(still_table(many)[0], drawn.deeds(draw, many, 8))
            behind = run_state(circuit, state)
            self.assertTrue(is_state(behind))
            wanted = exact.through(exact.circuit_values(circuit), exact.values(state))
            self.assertEqual(exact.values(behind), wanted)

    def test_run_with_too_few_or_too_many_places(self):
        for n, gates in EMPTY:
            for many in (2, 3, 4, 5, 6, 8):
                if many != 2 ** n:
                    with self.assertRaises(Unfit):
                        run_state((n, gates), still_table(many)[0])


class Joined(unittest.TestCase):
    def test_back(self):
        for circuit in circuits(4):
            n, gates = circuit
            back = circuit_back(circuit)
            self.assertTrue(is_circuit(back))
            self.assertEqual(circuit_table((n, gates + back[1])), still_table(2 ** n))
            self.assertEqual(circuit_table((n, back[1] + gates)), still_table(2 ** n))

    def test_how_back_is_told(self):
        told = {"T": ("Z", "S", "T"), "S": ("Z", "S"), "W": ("W",) * 7}
        for gate in all_gates(3):
            wanted = tuple((word, *gate[1:]) for word in told.get(gate[0], (gate[0],)))
            self.assertEqual(circuit_back((3, (gate,))), (3, wanted))
            self.assertEqual(circuit_back((3, (gate, ("CX", 0, 2)))), (3, (("CX", 0, 2),) + wanted))
        self.assertEqual(circuit_back((2, ())), (2, ()))

    def test_put_behind(self):
        draw = drawn.rng(5)
        for one in circuits(5):
            other = drawn.circuit(draw, one[0], 5)
            joined = put_behind(one, other)
            self.assertEqual(joined, (one[0], one[1] + other[1]))
            self.assertEqual(circuit_table(joined), table_product(circuit_table(other), circuit_table(one)))

    def test_moved(self):
        draw = drawn.rng(6)
        for n, many in ((1, 1), (1, 3), (2, 2), (2, 3), (3, 3), (3, 5)):
            circuit, wires = drawn.circuit(draw, n, 9), tuple(draw.sample(range(many), n))
            moved = wires_moved(circuit, many, wires)
            self.assertTrue(is_circuit(moved))
            self.assertEqual(moved, (many, tuple((g[0], *[wires[q] for q in g[1:]]) for g in circuit[1])))
        self.assertEqual(wires_moved((1, ()), 4, (3,)), (4, ()))

    def test_checks_of_moved_go_in_order(self):
        circuit = (2, (("CX", 0, 1),))
        for wires in ((), (0,), (0, 1, 2), (9, 9, 9), (9,), (-1,)):
            with self.assertRaises(Unfit):
                wires_moved(circuit, 3, wires)
        for wires, number in (((3, 0), 3), ((0, 3), 3), ((-1, 9), -1), ((9, 9), 9), ((0, -2), -2), ((5, 5), 5)):
            with self.assertRaises(NoWire) as caught:
                wires_moved(circuit, 3, wires)
            self.assertEqual(caught.exception.number, number)
        for wires in ((0, 0), (2, 2)):
            with self.assertRaises(Unfit):
                wires_moved(circuit, 3, wires)
        with self.assertRaises(NoWire):
            wires_moved(circuit, 1, (0, 1))


class Parting(unittest.TestCase):
    def parts(self, one, other):
        """Whether alike, whether like, all parting places, all parting pairs, from the definitions."""
        ones, others = [exact.columns(exact.circuit_values(each)) for each in (one, other)]
        places = [p for p in range(len(ones)) if ones[p] != others[p]]
        does = [[all(exact.times(x, exact.power_of_w(m)) == y for x, y in zip(ones[p], others[p])) for m in range(8)]
                for p in range(len(ones))]
        pairs = [(p, q) for p in range(len(ones)) for q in range(p, len(ones))
                 if not any(does[p][m] and does[q][m] for m in range(8))]
        like = any(all(row[m] for row in does) for m in range(8))
        return not places, like, places, pairs

    def test_all_that_is_told_of_two(self):
        seen = set()
        for one, other in near_pairs(7):
            alike, like, places, pairs = self.parts(one, other)
            seen.add((alike, like))
            self.assertIs(circuits_alike(one, other), alike)
            self.assertIs(circuits_like(one, other), like)
            self.assert_least(parting_place, one, other, places)
            self.assert_least(parting_pair, one, other, pairs)
            numbers = range(-1, 2 ** one[0] + 1)
            for p in numbers:
                self.assertIs(is_parting_place(one, other, p), p in places)
                for q in numbers:
                    self.assertIs(is_parting_pair(one, other, (p, q)), (p, q) in pairs)
        self.assertEqual(seen, {(True, True), (False, True), (False, False)})

    def assert_least(self, function, one, other, found):
        if found:
            self.assertEqual(function(one, other), min(found))
        else:
            with self.assertRaises(NoPaper):
                function(one, other)

    def test_unlike_wires_are_unfit_ahead_of_all_else(self):
        for one, other in (((1, ()), (2, ())), ((3, (("X", 0),)), (1, (("X", 0),)))):
            for function in (put_behind, circuits_alike, circuits_like, parting_place, parting_pair):
                with self.assertRaises(Unfit):
                    function(one, other)
            for thing in (None, 0, (0, 0), "x", [0], True):
                with self.assertRaises(Unfit):
                    is_parting_place(one, other, thing)
                with self.assertRaises(Unfit):
                    is_parting_pair(one, other, thing)

    def test_things_of_every_kind_are_none(self):
        one, other = (1, ()), (1, (("H", 0),))
        for thing in drawn.things() + [2, "0", [0], (0,), 10 ** 9]:
            self.assertIs(is_parting_place(one, other, thing), repr(thing) in ("0", "1"), thing)
        for thing in drawn.things() + [(0, 1), (1, 1), (1, 0), [0, 1], (0, True), (0, 1, 1), (0, 2), (-1, 0), ("0", 1)]:
            wanted = repr(thing) in ("(0, 0)", "(0, 1)", "(1, 1)")
            self.assertIs(is_parting_pair(one, other, thing), wanted, thing)


if __name__ == "__main__":
    unittest.main()

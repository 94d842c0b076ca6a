"""[17]: helpers.py, against another way to reckon."""

import itertools
import unittest

import drawn
import exact
from eighthturns.circuits import circuit_table, is_circuit
from eighthturns.errors import NoPaper, NoPlace, Unfit
from eighthturns.helpers import (alone_turns, controlled, determinant_turn, gates_for, gates_of_deed, helped_table,
                                 helper_back, helper_bar, helper_left, is_gates_for, is_helper_bar, is_helper_left,
                                 is_with_helper, two_turned, wires_alone, with_helper)
from eighthturns.rays import eighth_of, turned_ray
from eighthturns.tables import determinant, table_product

ZERO, ONE, W = drawn.ZERO, drawn.ONE, (0, 1, 0, 0, 0)
UNFIT = [drawn.still(3), drawn.still(5), drawn.still(6), drawn.still(7), ((ONE, ONE), (ZERO, ONE)),
         ((ONE, ZERO), (ZERO, ZERO)), (drawn.still(4)[0],) * 4, ((ONE, (1, 0, 0, 0, 50)), (ZERO, ONE)),
         ((ONE, ZERO, ZERO), (ZERO, ONE, ONE), (ZERO, ZERO, ONE))]


def row_turned(table, row, many):
    return tuple(tuple(turned_ray(ray, many) for ray in rays) if at == row else rays for at, rays in enumerate(table))


def last_turned(rows, many):
    return row_turned(drawn.still(rows), rows - 1, many)


def tables(seed, lengths=(0, 1, 4, 15), wires=(1, 2, 3)):
    """Upright TABLES with each turn from 0 to 7."""
    draw = drawn.rng(seed)
    found = []
    for n in wires:
        for length in lengths:
            table = circuit_table(drawn.circuit(draw, n, length))
            found += [row_turned(table, draw.randrange(2 ** n), many) for many in range(8)]
    return found


def wires_of(table):
    return len(table).bit_length() - 1


def helped_values(circuit):
    """The values of what the CIRCUIT makes with a helper, or None if it is not back."""
    rows = exact.circuit_values(circuit)
    if any(rows[other][place] != exact.number(0) for place in range(0, len(rows), 2) for other in range(1, len(rows), 2)):
        return None
    return tuple(row[::2] for row in rows[::2])


class Turns(unittest.TestCase):
    def test_the_turn_is_that_of_the_determinant(self):
        seen = set()
        for table in tables(1):
            turn = determinant_turn(table)
            self.assertEqual(turn, eighth_of(determinant(table)))
            self.assertIs(wires_alone(table), turn % 2 ** (wires_of(table) - 1) == 0)
            seen.add((wires_of(table), turn))
        self.assertEqual(len(seen), 24)

    def test_far_powers(self):
        draw = drawn.rng(2)
        for n in (1, 2, 3):
            table = last_turned(2 ** n, 3)
            for _ in range(6):
                table = table_product(circuit_table(drawn.circuit(draw, n, 60)), table)
            self.assertEqual(determinant_turn(table), eighth_of(determinant(table)))

    def test_each_power(self):
        powers = set()
        for length in range(1, 60):
            table = circuit_table((1, (("H", 0), ("T", 0)) * length))
            powers |= {ray[4] for row in table for ray in row}
            self.assertEqual(determinant_turn(table), eighth_of(determinant(table)))
            turn = determinant_turn(table)
            for n, both in ((2, controlled(table)), (3, controlled(controlled(table)))):
                self.assertEqual((len(both), determinant_turn(both)), (2 ** n, turn))
        self.assertTrue(set(range(1, 25)) <= powers, powers)

    def test_wires_make_no_others(self):
        draw = drawn.rng(13)
        for n in (1, 2, 3):
            circuits = [drawn.circuit(draw, n, length) for length in (1, 2, 3, 10, 40) for _ in range(5)]
            for word, many in drawn.GATE_WORDS.items():
                circuits += [(n, ((word, *wires),)) for wires in itertools.permutations(range(n), many)]
            for circuit in circuits:
                self.assertIs(wires_alone(circuit_table(circuit)), True)

    def test_alone_turns(self):
        for table in tables(3, (0, 7)):
            wanted = tuple(many for many in range(8) if wires_alone(row_turned(table, 0, many)))
            self.assertEqual(repr(alone_turns(table)), repr(wanted))
            self.assertEqual(len(wanted), 8 // 2 ** (wires_of(table) - 1))

    def test_bars(self):
        for table in tables(4):
            turn = determinant_turn(table)
            if wires_alone(table):
                with self.assertRaises(NoPaper):
                    helper_bar(table)
            else:
                self.assertEqual(helper_bar(table), turn)
            for thing in list(range(-2, 10)) + [True, False, (turn,)] + drawn.things():
                right = not wires_alone(table) and type(thing) is int and thing == turn
                self.assertIs(is_helper_bar(table, thing), right)

    def test_what_is_unfit(self):
        calls = [(determinant_turn,), (wires_alone,), (gates_for,), (is_gates_for, None), (is_gates_for, (1, ())),
                 (helper_bar,), (is_helper_bar, 0), (with_helper,), (is_with_helper, None), (is_with_helper, (2, ())),
                 (alone_turns,), (controlled,)]
        for table in UNFIT:
            for function, *more in calls:
                with self.assertRaises(Unfit):
                    function(table, *more)


class Alone(unittest.TestCase):
    def check(self, table):
        if not wires_alone(table):
            with self.assertRaises(NoPaper):
                gates_for(table)
            return
        circuit = gates_for(table)
        self.assertIs(is_circuit(circuit), True)
        self.assertEqual(circuit[0], wires_of(table))
        self.assertEqual(circuit_table(circuit), table)
        self.assertIs(is_gates_for(table, circuit), True)
        self.assertEqual(circuit, gates_for(table))

    def test_drawn_ones(self):
        for table in tables(5):
            self.check(table)

    def test_long_circuits(self):
        draw = drawn.rng(6)
        for n in (1, 2, 3):
            for _ in range(3):
                self.check(circuit_table(drawn.circuit(draw, n, 60)))

    def test_single_deeds_and_turned_places(self):
        for rows in (2, 4, 8):
            for many in range(8):
                for place in range(rows):
                    self.check(row_turned(drawn.still(rows), place, many))

    def test_the_gates_told_by_values(self):
        for table in tables(7, (0, 5)):
            if wires_alone(table):
                self.assertEqual(exact.circuit_values(gates_for(table)), exact.table_values(table))

    def test_judged(self):
        draw = drawn.rng(8)
        for n in (1, 2, 3):
            circuit = drawn.circuit(draw, n, 12)
            table = circuit_table(circuit)
            for right in (circuit, (n, circuit[1] + (("X", 0), ("X", 0))), (n, (("W",),) * 8 + circuit[1])):
                self.assertIs(is_gates_for(table, right), True)
            wrong = [(n, circuit[1] + (("W",),)), (n, circuit[1][1:] + (("T", 0),) * 4), (n + 1, circuit[1]), [n, circuit[1]],
                     (n, list(circuit[1])), (n, circuit[1], ()), (n,), circuit[1], table, (True, circuit[1]),
                     (n, circuit[1] + (["X", 0],) * 2), (n, circuit[1] + (("X", n),) * 2), (n, circuit[1] + (None,))]
            for thing in wrong + drawn.things():
                self.assertIs(is_gates_for(table, thing), False, thing)
            self.assertIs(is_gates_for(row_turned(table, 0, 1), circuit), False)
        self.assertIs(is_gates_for(drawn.still(2), (1, ())), True)
        self.assertIs(is_gates_for(last_turned(2, 1), (1, (("T", 0),))), True)
        self.assertIs(is_gates_for(last_turned(2, 1), (True, (("T", 0),))), False)


class Helped(unittest.TestCase):
    def check(self, table):
        circuit = with_helper(table)
        self.assertIs(is_circuit(circuit), True)
        self.assertEqual(circuit[0], wires_of(table) + 1)
        self.assertEqual(helped_values(circuit), exact.table_values(table))
        self.assertIs(is_with_helper(table, circuit), True)
        self.assertIs(helper_back(circuit), True)
        self.assertEqual(helped_table(circuit), table)
        self.assertEqual(circuit, with_helper(table))

    def test_drawn_ones(self):
        for table in tables(9, (0, 2, 9), (1, 2)):
            self.check(table)

    def test_three_wires_go_too(self):
        for many in (0, 1, 6):
            self.check(last_turned(8, many))

    def test_long_circuits(self):
        draw = drawn.rng(10)
        for n in (1, 2):
            for many in (0, 3):
                self.check(row_turned(circuit_table(drawn.circuit(draw, n, 60)), 0, many))

    def test_back_and_left(self):
        draw = drawn.rng(11)
        backs = 0
        for n in (2, 3):
            words = [[("X", n - 1), ("CX", 0, n - 1), ("H", n - 1)], [("CX", n - 1, 0), ("T", n - 1), ("CZ", 0, n - 1)]]
            for at in range(60):
                gates = tuple(draw.choice(words[0] + words[1] * 3) for _ in range(draw.randint(0, 6)))
                circuit = (n, gates) if at % 2 else drawn.circuit(draw, n, draw.randint(0, 5))
                backs += self.check_left(circuit)
        self.assertTrue(20 < backs < 100, backs)

    def check_left(self, circuit):
        rows, many = exact.circuit_values(circuit), 2 ** circuit[0]
        wanted = [(place, other) for place in range(many) for other in range(many)
                  if place % 2 == 0 and other % 2 == 1 and rows[other][place] != exact.number(0)]
        self.assertIs(helper_back(circuit), not wanted)
        for thing in itertools.product(range(-1, many + 1), repeat=2):
            self.assertIs(is_helper_left(circuit, thing), thing in wanted)
        if wanted:
            self.assertEqual(helper_left(circuit), min(wanted))
            with self.assertRaises(Unfit):
                helped_table(circuit)
            self.assertIs(is_helper_left(circuit, list(wanted[0])), False)
        else:
            self.assertEqual(exact.table_values(helped_table(circuit)), helped_values(circuit))
            with self.assertRaises(NoPaper):
                helper_left(circuit)
        return not wanted

    def test_things_that_are_no_left(self):
        for thing in drawn.things() + [(False, True), (0, True), (0, 1, 2), (0,), (2, 3, ()), ((2, 3),), "23"]:
            self.assertIs(is_helper_left((2, (("CX", 0, 1),)), thing), False, thing)
        self.assertIs(is_helper_left((2, (("X", 1),)), (0, 1)), True)
        self.assertIs(is_helper_left((2, (("X", 1),)), (0, True)), False)
        self.assertIs(is_helper_left((2, (("X", 1),)), (False, 1)), False)

    def test_judged(self):
        table = last_turned(4, 1)
        helped = (("CCX", 0, 1, 2), ("T", 2), ("CCX", 0, 1, 2))
        for gates in (helped, (("CCX", 1, 0, 2), ("T", 2), ("CCX", 0, 1, 2)), helped + (("T", 2), ("CZ", 2, 0)),
                      (("S", 2),) + helped, (("CX", 2, 0),) + helped):
            self.assertIs(is_with_helper(table, (3, gates)), True, gates)
        wrong = [(3, helped[:2]), (3, helped[1:]), (3, helped + (("W",),)), (4, helped), (2, ()), (3, ()), [3, helped],
                 (3, list(helped)), (3, helped + (("X", 2),)), (3, helped + (("T", 0),)), (3, helped + (("X", 3),)), helped]
        for thing in wrong + drawn.things():
            self.assertIs(is_with_helper(table, thing), False, thing)
        self.assertIs(is_with_helper(drawn.still(2), (1, ())), False)
        self.assertIs(is_with_helper(drawn.still(2), (2, ())), True)
        self.assertIs(is_with_helper(drawn.still(2), (2, (("X", 1),))), False)
        # The helper comes back only from the RAYS with 0 there that are asked.
        self.assertIs(is_with_helper(drawn.still(2), (2, (("CZ", 0, 1), ("CX", 1, 0)))), True)


class Placed(unittest.TestCase):
    def test_controlled(self):
        for table in tables(12, (0, 5), (1, 2)):
            many = len(table)
            found = controlled(table)
            self.assertEqual(len(found), 2 * many)
            for row, place in itertools.product(range(2 * many), repeat=2):
                if row >= many and place >= many:
                    self.assertEqual(found[row][place], table[row - many][place - many])
                else:
                    self.assertEqual(found[row][place], ONE if row == place else ZERO)

    def test_controlled_is_steered_by_wire_0(self):
        for gate, wanted in ((("X", 0), ("CX", 0, 1)), (("Z", 0), ("CZ", 0, 1))):
            self.assertEqual(controlled(circuit_table((1, (gate,)))), circuit_table((2, (wanted,))))
        self.assertEqual(controlled(circuit_table((2, (("CX", 0, 1),)))), circuit_table((3, (("CCX", 0, 1, 2),))))

    def test_each_swap_and_mix(self):
        for n in (1, 2, 3):
            for word in ("swap", "mix"):
                for i, j in itertools.combinations(range(2 ** n), 2):
                    circuit = gates_of_deed(n, (word, i, j))
                    self.assertIs(is_circuit(circuit), True)
                    self.assertEqual(circuit[0], n)
                    self.assertEqual(exact.circuit_values(circuit), exact.deeds_values(2 ** n, ((word, i, j),)))
                    self.assertEqual(circuit, gates_of_deed(n, [word, i, j]))

    def test_turns(self):
        for place in (0, 1):
            circuit = gates_of_deed(1, ("turn", place))
            self.assertEqual((is_circuit(circuit), circuit[0]), (True, 1))
            self.assertEqual(exact.circuit_values(circuit), exact.deeds_values(2, (("turn", place),)))
        for n in (2, 3):
            for place in range(2 ** n):
                with self.assertRaises(NoPaper):
                    gates_of_deed(n, ("turn", place))

    def test_four_wires_make_no_deed_alone(self):
        for deed in (("turn", 3), ("swap", 0, 1), ("mix", 4, 15)):
            with self.assertRaises(NoPaper):
                gates_of_deed(4, deed)

    def no_place(self, wanted, function, *args):
        with self.assertRaises(NoPlace) as caught:
            function(*args)
        self.assertEqual(caught.exception.number, wanted)

    def test_places_that_are_none(self):
        for n in (1, 2, 3):
            many = 2 ** n
            self.no_place(many, gates_of_deed, n, ("turn", many))
            self.no_place(-1, gates_of_deed, n, ("turn", -1))
            for word in ("swap", "mix"):
                self.no_place(many, gates_of_deed, n, (word, 0, many))
                self.no_place(many, gates_of_deed, n, (word, many, many + 3))
                self.no_place(-2, gates_of_deed, n, (word, -2, many))
                self.no_place(-2, gates_of_deed, n, (word, -2, 1))
            self.no_place(many, two_turned, n, many, many)
            self.no_place(-1, two_turned, n, -1, many)
            self.no_place(many + 1, two_turned, n, 0, many + 1)
            self.no_place(-1, two_turned, n, 1, -1)
            for place in range(many):
                with self.assertRaises(Unfit):
                    two_turned(n, place, place)

    def test_two_turned(self):
        for n in (1, 2, 3):
            for one, other in itertools.permutations(range(2 ** n), 2):
                circuit = two_turned(n, one, other)
                self.assertEqual((is_circuit(circuit), circuit[0]), (True, n))
                wanted = exact.deeds_values(2 ** n, (("turn", one),) + (("turn", other),) * 7)
                self.assertEqual(exact.circuit_values(circuit), wanted)
                self.assertEqual(circuit, two_turned(n, one, other))


if __name__ == "__main__":
    unittest.main()

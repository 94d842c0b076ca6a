"""[12]: rounds.py, by multiplying on and on, and against another way to reckon."""

import itertools
import unittest

import drawn
import exact
import onewire
from eighthturns.circuits import circuit_table
from eighthturns.deeds import deeds_table
from eighthturns.errors import NoPaper, TooMany, Unfit
from eighthturns.rays import is_ray, turned_ray
from eighthturns.rounds import (all_round, comes_round, endless_chain, is_endless_chain, is_round_paper, main_sums, made_many,
                                power_far, power_like, round_length, round_paper, rounds_row, turn_at, turned_about,
                                whole_length)
from eighthturns.tables import is_table, still_table, table_mirrored, table_product

ZERO, ONE, W, HALF, LESS = drawn.ZERO, drawn.ONE, (0, 1, 0, 0, 0), drawn.HALF, drawn.LESS
H, T, S, X = [circuit_table((1, ((word, 0),))) for word in "HTSX"]
HT, HS = table_product(H, T), table_product(H, S)
BARE = still_table(2)


def turned(table, many):
    return tuple(tuple(turned_ray(ray, many) for ray in row) for row in table)


def uprights(seed, sizes=(2, 3, 4), lengths=(0, 1, 2, 3, 5, 8, 14)):
    draw = drawn.rng(seed)
    found = [deeds_table(many, drawn.deeds(draw, many, length)) for many in sizes for length in lengths for _ in range(2)]
    return [table for table in found if max(ray[4] for row in table for ray in row) <= 4]


def monomials(seed):
    """TABLES with one RAY in each row: all of them come round."""
    draw = drawn.rng(seed)
    found = []
    for many in (2, 3, 4, 4):
        goals = draw.sample(range(many), many)
        found.append(tuple(tuple(turned_ray(ONE, draw.randrange(8)) if goals[i] == j else ZERO for j in range(many))
                           for i in range(many)))
    return found


def stacked(one, other):
    """The TABLE of four rows of two of two."""
    return tuple([row + (ZERO, ZERO) for row in one] + [(ZERO, ZERO) + row for row in other])


def long_ones():
    """TABLES of four rows with long lengths."""
    sixteenth = ((ZERO, W), (ONE, ZERO))
    return [stacked(HS, sixteenth), stacked(HS, T), stacked(sixteenth, T), stacked(HS, turned(HS, 3)),
            ((ZERO, ZERO, ZERO, W), (ONE, ZERO, ZERO, ZERO), (ZERO, ONE, ZERO, ZERO), (ZERO, ZERO, ONE, ZERO)),
            table_product(stacked(H, BARE), circuit_table((2, (("CX", 0, 1), ("H", 0), ("S", 1)))))]


def all_tables(seed):
    return uprights(seed) + monomials(seed) + long_ones() + [BARE, H, T, S, HS, HT, turned(HS, 5), drawn.still(3),
                                                           stacked(HT, turned(HT, 4)), stacked(HT, HS)]


def like_turn_of(values, many):
    """The least turn that makes these values of those of ONE, or None."""
    for turn in range(8):
        if values == onewire.turned(exact.still_values(many), turn):
            return turn
    return None


def lengths_of(table, most=481):
    """The length and the whole length, by multiplying on; None if there is none below most."""
    values = exact.table_values(table)
    power = values
    for many in range(1, most):
        turn = like_turn_of(power, len(table))
        if turn is not None:
            whole = [times for times in range(1, 9) if times * turn % 8 == 0][0]
            return many, many * whole
        power = exact.tables_product(values, power)
    return None, None


def far_values(table, times):
    """The values of a power, by squares."""
    power, square = exact.still_values(len(table)), exact.table_values(table if times >= 0 else table_mirrored(table))
    times = abs(times)
    while times:
        if times % 2:
            power = exact.tables_product(power, square)
        square, times = exact.tables_product(square, square), times // 2
    return power


def sums_wanted(table):
    """The values of the main sums, over all ways to choose places and orders."""
    values, found = exact.table_values(table), []
    for m in range(1, len(table) + 1):
        parts = []
        for places in itertools.combinations(range(len(table)), m):
            for order in itertools.permutations(range(m)):
                odd = sum(order[i] > order[j] for i in range(m) for j in range(i + 1, m))
                parts.append(exact.times(exact.power_of_w(4 * odd), *[values[places[i]][places[order[i]]] for i in range(m)]))
        found.append(exact.plus(*parts))
    return tuple(found)


class Sums(unittest.TestCase):
    def test_main_sums(self):
        for table in all_tables(1):
            sums = main_sums(table)
            self.assertTrue(isinstance(sums, tuple) and len(sums) == len(table) and all(is_ray(ray) for ray in sums))
            self.assertEqual(exact.values(sums), sums_wanted(table))

    def test_papers(self):
        numbers = set()
        for table in all_tables(2):
            sums = main_sums(table)
            bars = [(m, sums[m - 1]) for m in range(1, len(table) + 1) if sums[m - 1][4] > 0]
            self.assertIs(comes_round(table), not bars)
            if bars:
                numbers.add(bars[0][0])
                self.assertEqual(round_paper(table), bars[0])
            else:
                with self.assertRaises(NoPaper):
                    round_paper(table)
            for m in range(-1, 6):
                for ray in set(sums) | {ZERO, ONE, HALF}:
                    self.assertIs(is_round_paper(table, (m, ray)), (m, ray) in bars)
        self.assertTrue({1, 2} <= numbers, numbers)

    def test_things_of_every_kind_are_no_papers(self):
        fine = round_paper(HT)
        self.assertEqual(fine, (1, (1, -1, 0, 0, 1)))
        more = [list(fine), (fine[0], list(fine[1])), (True, fine[1]), fine + (0,), fine[:1], fine[1], (fine,), ("1", fine[1]),
                (1, None), (1, (2, -2, 0, 0, 3)), (1, fine), (None, fine[1]), (0, fine[1]), (2, fine[1]), (1, (1, -1, False, 0, 1))]
        for thing in drawn.things() + more:
            self.assertIs(is_round_paper(HT, thing), False, thing)
            self.assertIs(is_round_paper(HS, thing), False, thing)
        self.assertIs(is_round_paper(HT, fine), True)


class Lengths(unittest.TestCase):
    def test_by_multiplying_on(self):
        seen = set()
        for table in all_tables(3):
            length, whole = lengths_of(table, 100)
            self.assertEqual((round_length(table), whole_length(table)), (length, whole))
            self.assertIs(comes_round(table), length is not None)
            seen.add(length)
            self.assertTrue(length is None or 480 % length == 0)
            if len(table) == 2:
                self.assertIn(length, (None, 1, 2, 3, 4, 8))
        self.assertTrue({None, 1, 2, 3, 4, 8, 24, 48} <= seen, seen)

    def test_led_about_and_mirrored(self):
        for table in all_tables(4):
            for other in uprights(4, (len(table),), (5,)):
                about = turned_about(table, other)
                self.assertEqual(exact.table_values(about), exact.tables_product(
                    exact.tables_product(exact.table_values(other), exact.table_values(table)),
                    exact.back(exact.table_values(other))))
                self.assertTrue(is_table(about))
                self.assertEqual((round_length(about), whole_length(about)), (round_length(table), whole_length(table)))
            self.assertEqual(round_length(table_mirrored(table)), round_length(table))
            self.assertEqual(round_length(turned(table, 3)), round_length(table))

    def test_row_by_all_tables(self):
        for most in (0, 1, 2):
            found = {}
            for letters in onewire.all_letters(most):
                ahead = [{0: "TH", 1: "THS", 2: "T"}[letter] for letter in letters]
                word = "".join(ahead[::-1])
                product = circuit_table((1, tuple((letter, 0) for letter in word)))
                for rest in self.quarters():
                    length = lengths_of(table_product(product, rest), 20)[0]
                    found[length] = found.get(length, 0) + 1
            wanted = sorted([pair for pair in found.items() if pair[0] is not None])
            wanted += [(None, found[None])] if None in found else []
            self.assertEqual(rounds_row(most), wanted)
            self.assertEqual(sum(many for _, many in wanted), 24 * (3 * 2 ** most - 2))
        self.assertEqual(rounds_row(0), [(1, 1), (2, 9), (3, 8), (4, 6)])
        self.assertEqual(sum(many for _, many in rounds_row(3)), 528)

    def quarters(self):
        """The 24 TABLES that H and S make, of like ones one."""
        found, keys = [BARE], {onewire.like_key(onewire.STILL)}
        for table in found:
            for other in (H, S):
                after = table_product(other, table)
                key = onewire.like_key(exact.table_values(after))
                if key not in keys:
                    keys.add(key)
                    found.append(after)
        return found


class Powers(unittest.TestCase):
    TIMES = (0, 1, -1, 2, 7, -8, 100, 200, -200)
    FAR = (201, -201, 1000, 10 ** 30, -10 ** 30, 10 ** 30 - 7, 3 ** 50)

    def test_near(self):
        for table in uprights(5, lengths=(1, 3, 6)) + [HT, HS, T]:
            for times in self.TIMES:
                power = power_far(table, times)
                self.assertTrue(is_table(power))
                self.assertEqual(exact.table_values(power), far_values(table, times))

    def test_far(self):
        for table in all_tables(6):
            for times in self.FAR:
                if comes_round(table):
                    self.assertEqual(exact.table_values(power_far(table, times)), far_values(table, times))
                    self.assertEqual(turn_at(table, times), like_turn_of(far_values(table, times), len(table)))
                else:
                    for function in (power_far, turn_at):
                        with self.assertRaises(TooMany):
                            function(table, times)

    def test_turns(self):
        for table in uprights(7, lengths=(0, 1, 3)) + long_ones() + [turned(BARE, 3), turned(HS, 5), HT, T]:
            for times in self.TIMES + (3, 4, 6, 9, 12, 16, 24):
                self.assertEqual(turn_at(table, times), like_turn_of(far_values(table, times), len(table)))
        self.assertEqual([turn_at(turned(BARE, 3), times) for times in (0, 1, 2, -1)], [0, 3, 6, 5])

    def test_power_like(self):
        for table in all_tables(8):
            if not comes_round(table):
                for other in (table, still_table(len(table))):
                    with self.assertRaises(Unfit):
                        power_like(table, other)
                continue
            length = round_length(table)
            for many in {0, 1, length // 2, length - 1, length, length + 1}:
                self.assertEqual(power_like(table, turned(power_far(table, many), many % 8)), many % length)
            for other in uprights(8, (len(table),), (3,)):
                keys = [onewire.like_key(far_values(table, many)) for many in range(length)]
                key = onewire.like_key(exact.table_values(other))
                self.assertEqual(power_like(table, other), keys.index(key) if key in keys else None)


class Chains(unittest.TestCase):
    def sets(self, seed):
        draw = drawn.rng(seed)
        found = [(H, S), (T, S), (H, T), (BARE,), (T,), (HT,), (X, T), (T, X, S), (HS, S, X, H), (S, HT), (turned(BARE, 3),)]
        elliptic = [H, T, S, X, HS, BARE]
        for _ in range(14):
            about = circuit_table(onewire.circuit(draw, draw.randint(0, 6), "HTS"))
            found.append(tuple(turned_about(draw.choice(elliptic), about) for _ in range(draw.randint(1, 4))))
            found.append(tuple(turned_about(draw.choice(elliptic), draw.choice((about, H, T)))
                               for _ in range(draw.randint(1, 4))))
        return [tables for tables in found if max(ray[4] for table in tables for row in table for ray in row) <= 4]

    def closure(self, tables, most=24):
        """The keys of all that CHAINS make; None if they are more than most."""
        values = [exact.table_values(table) for table in tables]
        found, ahead = {}, list(values)
        while ahead:
            table = ahead.pop(0)
            key = onewire.like_key(table)
            if key not in found:
                found[key] = True
                ahead += [exact.tables_product(table, own) for own in values]
            if len(found) > most:
                return None
        return found

    def search(self, tables, longest):
        """The least CHAIN that does not come round, of all to this length."""
        for length in range(1, longest + 1):
            for chain in itertools.product(range(len(tables)), repeat=length):
                product = BARE
                for number in chain:
                    product = table_product(product, tables[number])
                if lengths_of(product, 9)[0] is None:
                    return chain
        return None

    def test_all_round_or_not(self):
        seen = set()
        for tables in self.sets(9):
            closed, least = self.closure(tables), self.search(tables, 3)
            seen.add((least is None, len(least or ())))
            self.assertIs(all_round(tables), closed is not None)
            self.assertEqual(made_many(tables), None if closed is None else len(closed))
            self.assertEqual(least is None, closed is not None)
            if least is None:
                with self.assertRaises(NoPaper):
                    endless_chain(tables)
            else:
                self.assertEqual(endless_chain(tables), least)
                self.assertIs(is_endless_chain(tables, endless_chain(tables)), True)
        self.assertTrue({(True, 0), (False, 1), (False, 2)} <= seen, seen)

    def test_finite_ones(self):
        self.assertEqual([made_many(tables) for tables in ((BARE,), (T,), (S,), (X, T), (H, S), (X,), (turned(BARE, 5),))],
                         [1, 8, 4, 16, 24, 2, 1])

    def test_which_are_endless(self):
        draw = drawn.rng(10)
        for tables in self.sets(11):
            for _ in range(4):
                chain = tuple(draw.randrange(len(tables)) for _ in range(draw.choice((1, 2, 3, 9, 40))))
                product = BARE
                for number in chain:
                    product = table_product(product, tables[number])
                self.assertIs(is_endless_chain(tables, chain), lengths_of(product, 9)[0] is None)
                self.assertIs(is_endless_chain(tables, list(chain)), False)

    def test_things_of_every_kind_are_none(self):
        more = [(2,), (0, 2), (-1, 0), (True, False), (0, True), (0, None), (0, "1"), (0, [1]), ((0, 1),), [0, 1], "01", (0, 1.0),
                (0, 0), (1, 1), ()]
        for thing in drawn.things() + more:
            self.assertIs(is_endless_chain((H, T), thing), False, thing)
        for thing in ((0, 1), (1, 0), (0, 1, 0, 1), (1, 0, 1, 1)):
            self.assertIs(is_endless_chain((H, T), thing), True)


if __name__ == "__main__":
    unittest.main()

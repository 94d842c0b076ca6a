"""[2] and [23]: what holds of all functions, asked of each one."""

import copy
import inspect
import unittest

import drawn
from asking import half_listed, holds_list, listed, outcome
from calls import JUDGING, LISTS as EARLIER_LISTS, MORE_CALLS
from interface import ERRORS, INTERFACE, functions, module_named, parameters
from later_calls import LATER_CALLS, LATER_JUDGING, LATER_LISTS

ZERO, ONE, W, HALF, LESS = drawn.ZERO, drawn.ONE, (0, 1, 0, 0, 0), drawn.HALF, drawn.LESS
QUARTER = (1, 0, 0, 0, 2)
EVEN, TURNED, BENT, STILL = drawn.MIXED, ((ONE, ZERO), (ZERO, W)), ((ONE, ONE), (ZERO, ONE)), ((ONE, ZERO), (ZERO, ONE))
PLAIN = ((ZERO, W, ZERO), (ZERO, ZERO, ONE), ((0, 0, 1, 0, 0), ZERO, ZERO))
EIGHT = drawn.still(8)[::-1]
FINE = tuple(tuple((ray, 1) for ray in row) for row in EVEN)
ROUGH = (((ONE, 3), (ZERO, 1)), ((ZERO, 1), (ONE, 1)))
TWICE = (((HALF, 1), (HALF, 1)), ((HALF, 1), (HALF, 1)))
KNOT, LINK = (1, (("H", 0), ("T", 0), ("H", 0))), (2, (("H", 0), ("CX", 0, 1)))
DEEDS, RING = (("mix", 0, 1), ("turn", 1)), (("swap", 0, 1),) * 2 + (("turn", 0),) * 8 + (("mix", 0, 1),)
FAR = (("turn", 0), ("mix", 0, 7), ("turn", 9))
LOW, BENT_STATE = (HALF, HALF), ((1, 1, 0, 0, 2), (1, -1, 0, 0, 2))
UNIT, THREE = (ONE, ZERO), (ZERO, HALF, LESS)
SIX = (QUARTER, ZERO, QUARTER, HALF, ZERO, ZERO)

CALLS = {
    "is_ray": [(ONE,), ((2, 0, 0, 0, 2),), (None,)],
    "ray_of": [((2, 0, 0, 0), 2), ((0, 0, 0, 0), 5), ((10 ** 12,) * 4, 40), ((1, 0, 0, 0), 0)],
    "ray_sum": [(HALF, HALF), (ZERO, ZERO), (ONE, ZERO), (ZERO, W)],
    "ray_product": [(HALF, W), (ZERO, W), (ONE, ONE)],
    "turned_ray": [((1, 1, 0, 0, 3), 2), (W, 0), (W, -3), (ZERO, 8)],
    "mirrored": [(W,), (ZERO,)],
    "twin_of": [(HALF,), (W,), (ZERO,)],
    "size_of": [(W,), ((1, 1, 0, 0, 0),), (ZERO,)],
    "is_real": [(W,), (ONE,), (ZERO,)],
    "sign_of": [((3, -2, 0, 2, 0),), (ZERO,), (W,)],
    "over_root": [(ONE, 1), (HALF, -3), (HALF, 0), (ZERO, 4)],
    "rest_of": [(HALF, 2), (HALF, 0), (ONE, 0)],
    "eighth_of": [(W,), (HALF,), (ZERO,)],
    "is_table": [(EVEN,), (None,), (EVEN[0],)],
    "still_table": [(2,), (8,)],
    "table_product": [(EVEN, TURNED), (EIGHT, EIGHT)],
    "table_power": [(TURNED, 200), (BENT, 3), (BENT, 1), (BENT, 0)],
    "made_of": [(EVEN, UNIT), (BENT, (W, W)), (STILL, (W, ZERO))],
    "table_mirrored": [(TURNED,), (PLAIN,)],
    "twin_table": [(EVEN,), (STILL,)],
    "is_upright": [(EVEN,), (BENT,)],
    "slant_of": [(BENT,), (EVEN,)],
    "is_slant": [(BENT, (0, 1)), (BENT, (1, 0)), (EVEN, None)],
    "determinant": [(TURNED,), (BENT,), (EIGHT,)],
    "like_turn": [(EVEN, EVEN), (EVEN, TURNED), (STILL, ((W, ZERO), (ZERO, W)))],
    "beside_tables": [(EVEN, PLAIN), (EVEN, STILL)],
    "is_deed": [(2, ("mix", 0, 1)), (2, ("mix", 1, 0)), (2, None)],
    "are_deeds": [(2, DEEDS), (2, ()), (2, ["turn", 0])],
    "deed_done": [(LOW, ("mix", 0, 1)), (LOW, ("turn", 1)), (UNIT, ("swap", 0, 1)), (LOW, ("mix", 1, 4))],
    "deeds_done": [(LOW, DEEDS), (LOW, ()), (LOW, FAR)],
    "deeds_table": [(2, DEEDS), (3, ()), (2, FAR)],
    "deeds_back": [(DEEDS,), ((),)],
    "deeds_of_gate": [(2, ("H", 0)), (2, ("CZ", 1, 0)), (1, ("W",)), (3, ("CCX", 2, 0, 1)), (2, ("CX", 0, 2))],
    "deeds_of_circuit": [(KNOT,), (LINK,), ((1, ()),)],
    "deed_counts": [(RING,), ((),)],
    "plain_deeds": [(RING,), (DEEDS,), ((),)],
    "first_idle": [(2, RING), (2, DEEDS), (2, FAR)],
    "is_idle_stretch": [(2, RING, (0, 2)), (2, RING, (0, 3)), (2, RING, True), (2, FAR, (0, 2))],
    "without_idle": [(2, RING), (2, DEEDS), (2, ()), (2, FAR)],
    "parting_start": [(2, DEEDS, ()), (2, RING, RING), (2, FAR, ()), (2, (), FAR)],
    "is_parting_start": [(2, DEEDS, (), 0), (2, DEEDS, (), True), (2, FAR, (), 0), (2, (), FAR, 0)],
    "is_gate": [(2, ("CX", 1, 0)), (2, ("CX", 1, 1)), (1, None)],
    "is_circuit": [(KNOT,), ((0, ()),), (None,)],
    "gate_table": [(1, ("H", 0)), (2, ("CX", 1, 0)), (1, ("CX", 0, 3))],
    "circuit_table": [(KNOT,), (LINK,), ((2, ()),)],
    "run_state": [(KNOT, LOW), ((1, ()), LOW), (LINK, LOW)],
    "circuit_back": [(KNOT,), (LINK,), ((1, (("W",),)),), ((1, ()),)],
    "put_behind": [(KNOT, (1, ())), ((1, ()), KNOT), (LINK, LINK), (KNOT, LINK)],
    "wires_moved": [(LINK, 3, (2, 0)), (KNOT, 1, (0,)), (LINK, 3, (1,)), (LINK, 3, (4, 4)), (LINK, 3, (1, 1))],
    "circuits_alike": [(KNOT, KNOT), (KNOT, (1, ())), (KNOT, LINK)],
    "circuits_like": [((1, (("W",),)), (1, ())), (KNOT, (1, ())), (KNOT, LINK)],
    "parting_place": [(KNOT, (1, ())), (KNOT, KNOT), (KNOT, LINK)],
    "is_parting_place": [(KNOT, (1, ()), 0), (KNOT, KNOT, None), (KNOT, LINK, 0)],
    "parting_pair": [((1, (("T", 0),)), (1, ())), (KNOT, KNOT), (KNOT, LINK)],
    "is_parting_pair": [((1, (("T", 0),)), (1, ()), (0, 1)), (KNOT, KNOT, [0, 0]), (KNOT, LINK, (0, 0))],
    "is_given": [(FINE,), (ROUGH,), (EVEN,)],
    "rays_given": [(FINE,), (ROUGH,)],
    "is_made": [(FINE,), (ROUGH,), (TWICE,)],
    "bar_of": [(ROUGH,), (TWICE,), (FINE,)],
    "is_bar": [(ROUGH, ("odd", 0, 0)), (TWICE, ("pair", 0, 1)), (FINE, None), (ROUGH, ("size", 1))],
    "deeds_for": [(FINE,), (ROUGH,)],
    "is_deeds_for": [(FINE, (("mix", 0, 1),)), (FINE, ()), (ROUGH, None)],
    "power_chart": [(EVEN,), (PLAIN,)],
    "least_power": [(EVEN,), (PLAIN,)],
    "can_begin": [((LOW,), 2), ((), 3), ((LOW, LOW), 2)],
    "table_from": [((LOW,), 2), ((), 3), ((THREE,), 3), ((LOW, LOW), 2)],
    "is_table_from": [((LOW,), 2, EVEN), ((LOW,), 2, STILL), ((LOW, LOW), 2, EVEN), ((), 2, None)],
    "blocks": [(PLAIN,), (STILL,)],
    "needed_places": [(PLAIN,), (STILL,), (TURNED,)],
    "plain_cost": [(PLAIN,), (EVEN,), (EIGHT,)],
    "is_state": [(LOW,), (None,), ((ONE, ONE),)],
    "sizes_of": [(BENT_STATE,), (UNIT,)],
    "state_power": [(BENT_STATE,), (UNIT,)],
    "kinds_of": [(BENT_STATE,), (UNIT,), (SIX,)],
    "pair_alike": [(BENT_STATE,), (UNIT,), (SIX,)],
    "mates_down": [(BENT_STATE,), (UNIT,), (SIX,)],
    "deeds_to": [(BENT_STATE,), (UNIT,), (SIX,)],
    "deeds_between": [(BENT_STATE, LOW), (UNIT, UNIT), (SIX, UNIT)],
    "is_leading": [(UNIT, LOW, (("mix", 0, 1),)), (UNIT, UNIT, ()), (UNIT, LOW, None), (SIX, UNIT, ())],
    "mixes_within": [(BENT_STATE, 2), (BENT_STATE, 1), (UNIT, 0), (SIX, 2)],
    "product_of": [(BENT_STATE, LOW), (UNIT, SIX)],
    "like_states": [(LOW, LOW), (LOW, BENT_STATE), (UNIT, SIX)],
    "twin_state": [(BENT_STATE,), (UNIT,)],
    **MORE_CALLS, **LATER_CALLS,
}
LISTS = EARLIER_LISTS + LATER_LISTS


def changed(change, names, args):
    """The arguments with this change made of each, but of a thing."""
    return tuple(arg if name == "thing" else change(arg) for name, arg in zip(names, args))


class AllFunctions(unittest.TestCase):
    def each(self):
        known = functions()
        for name in known:
            for args in CALLS[name]:
                with self.subTest(name=name, args=args):
                    yield name, known[name], args

    def test_each_is_asked(self):
        self.assertEqual(sorted(CALLS), sorted(functions()))

    def test_each_is_defined_in_its_own_file_with_its_own_parameters(self):
        for module in INTERFACE:
            for name, told in INTERFACE[module].items():
                function = getattr(module_named(module), name)
                self.assertEqual(function.__module__, "eighthturns." + module)
                self.assertEqual(function.__name__, name)
                self.assertEqual(list(inspect.signature(function).parameters), told.split())

    def test_lists_for_tuples_at_any_depth(self):
        for name, function, args in self.each():
            wanted = outcome(function, *args)
            for change in (listed, half_listed, lambda arg: list(arg) if isinstance(arg, tuple) else arg):
                self.assertEqual(outcome(function, *changed(change, parameters(name), args)), wanted)

    def test_names_for_positions(self):
        for name, function, args in self.each():
            wanted = outcome(function, *args)
            named = dict(zip(parameters(name), args))
            self.assertEqual(outcome(function, **named), wanted)
            self.assertEqual(outcome(function, **dict(reversed(list(named.items())))), wanted)
            rest = {key: named[key] for key in parameters(name)[1:]}
            self.assertEqual(outcome(function, *args[:1], **rest), wanted)

    def test_arguments_stay_as_they_were(self):
        for name, function, args in self.each():
            for own in (args, changed(listed, parameters(name), args)):
                kept = copy.deepcopy(own)
                outcome(function, *own)
                self.assertEqual(repr(own), repr(kept))

    def test_the_same_call_gives_an_equal_result(self):
        for name, function, args in self.each():
            self.assertEqual(outcome(function, *args), outcome(function, *copy.deepcopy(args)))

    def test_tuples_are_returned_and_no_list(self):
        for name, function, args in self.each():
            try:
                result = function(*changed(listed, parameters(name), args))
            except (LookupError, ValueError):
                continue
            self.assertIs(isinstance(result, list), name in LISTS)
            self.assertFalse(holds_list(tuple(result) if name in LISTS else result))
            if name.startswith(("is_", "are_", "can_")) or name in JUDGING + LATER_JUDGING:
                self.assertIn(result, (True, False))
                self.assertIsInstance(result, bool)
            elif name != "shows":
                self.assertNotIsInstance(result, bool)

    def test_every_returned_list_is_new(self):
        for name, function, args in self.each():
            if name in LISTS:
                wanted = outcome(function, *args)
                if wanted[0] == "returned":
                    own = function(*args)
                    own.append(None)
                    own[0] = None
                    self.assertEqual(outcome(function, *args), wanted)

    def test_things_of_every_kind_are_judged_without_an_error(self):
        known = functions()
        for name, args in [(name, args) for name in known for args in CALLS[name] if parameters(name)[-1:] == ["thing"]]:
            before = outcome(known[name], *args)
            for thing in drawn.things() + [ONE, EVEN, FINE, DEEDS, KNOT, LOW, ("H", 0), ("mix", 0, 1), ("odd", 0, 0)]:
                found = outcome(known[name], *args[:-1], thing)
                if before[0] == "raised":
                    self.assertEqual(found, before)
                else:
                    told = ("True", "False", "None") if name == "shows" else ("True", "False")
                    self.assertIn(found, [("returned", own) for own in told])

    def test_a_list_is_no_tuple_in_a_thing(self):
        known = functions()
        right = [(name, args) for name in known for args in CALLS[name]
                 if parameters(name)[-1:] == ["thing"] and outcome(known[name], *args) == ("returned", "True")]
        self.assertEqual(len({name for name, _ in right}), 44)
        for name, args in right:
            if isinstance(args[-1], tuple):
                for change in (listed, half_listed, list):
                    if repr(change(args[-1])) != repr(args[-1]):
                        self.assertIs(known[name](*args[:-1], change(args[-1])), None if name == "shows" else False)


class Errors(unittest.TestCase):
    def test_all_are_defined_in_errors(self):
        for name in ERRORS:
            self.assertEqual(getattr(module_named("errors"), name).__module__, "eighthturns.errors")


if __name__ == "__main__":
    unittest.main()

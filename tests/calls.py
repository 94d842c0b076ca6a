"""Calls of each function of sections 9 to 15: ordinary ones, edges, and ones that raise."""

import drawn

ZERO, ONE, W, HALF, LESS = drawn.ZERO, drawn.ONE, (0, 1, 0, 0, 0), drawn.HALF, drawn.LESS
EVEN, STILL, TURNED = drawn.MIXED, ((ONE, ZERO), (ZERO, ONE)), ((ONE, ZERO), (ZERO, W))
QUARTERED = ((ONE, ZERO), (ZERO, (0, 0, 1, 0, 0)))
HAT = ((HALF, (0, 1, 0, 0, 1)), (HALF, (0, -1, 0, 0, 1)))
FOUR = tuple(drawn.still(4)[row] for row in (2, 3, 0, 1))
PLAIN, DEEP = (False, (), STILL), (True, (0, 1, 1, 0), EVEN)
KNOT = (1, (("H", 0), ("T", 0), ("H", 0), ("T", 0), ("W",)))
TURNS = (2, (("CX", 0, 1), ("T", 1), ("CX", 0, 1), ("CZ", 1, 0), ("X", 0), ("W",)))
FAR_WIRES = (6, (("T", 0),))
STRAIGHT = (0, (2, 1), 0, (1, 1, 7))
CROSSED = (3, (3, 2), 1, (0, 5, 2))
QUAD = (0, (8, 4, 2, 1), 5, (1,) * 15)
FIVE = (1, (16, 8, 4, 2, 1), 0, tuple(y % 8 for y in range(31)))
SIX = (0, (32, 16, 8, 4, 2, 1), 0, (0,) * 63)
FIVE_SIZE, BARRED, TOPS = (5, -2, 0, 2, 6), (13, -2, 0, 2, 8), (1, 1, 1, 0, 4)
BIG = (31623, 0, 0, 0, 0)

MORE_CALLS = {
    "quarter_tables": [()],
    "is_quarter": [(EVEN,), (TURNED,), (None,)],
    "is_reading": [(DEEP,), (PLAIN,), ((True, (0,), TURNED),)],
    "reading_of": [(HAT,), (STILL,), (QUARTERED,)],
    "reading_table": [(DEEP,), (PLAIN,)],
    "reading_put": [(DEEP, PLAIN), (PLAIN, DEEP), (DEEP, DEEP)],
    "reading_back": [(DEEP,), (PLAIN,)],
    "fewest_eighths": [(HAT,), (STILL,)],
    "eighths_saved": [(KNOT,), ((1, ()),)],
    "circuit_of_reading": [(DEEP,), (PLAIN,)],
    "axes_table": [(HAT,), (STILL,)],
    "axes_power": [(HAT,), (STILL,)],
    "words_of": [(HAT, 2), (STILL, 0), (HAT, 0), (QUARTERED, 3)],
    "shortest_word": [(HAT,), (STILL,), (((HALF, W), (ZERO, ONE)),)],
    "tables_many": [(0,), (3,), (1000,)],
    "tables_at_most": [(0,), (3,), (1000,)],
    "reading_by_number": [(0,), (367,), (10 ** 40,)],
    "number_of_reading": [(DEEP,), (PLAIN,)],
    "next_reading": [(DEEP,), (PLAIN,)],
    "letters_of": [(HAT,), (STILL,)],
    "letters_moved": [(HAT, ()), (HAT, (2, 0, 1)), (STILL, (0,))],
    "way_between": [((2, 0, 0), (2, 1)), ((), ()), ((0,), (0, 1, 1))],
    "middle_of": [((0, 1), (0, 0, 1), (2,)), ((), (), ()), ((0, 1), (0, 1), ())],
    "near_both": [((), (), 2), ((0,), (1, 1), 3), ((), (0, 0, 0), 0)],
    "least_shift": [(HAT,), (STILL,)],
    "least_moved": [(HAT,), (STILL,)],
    "main_sums": [(EVEN,), (FOUR,)],
    "comes_round": [(EVEN,), (HAT,), (FOUR,)],
    "round_length": [(EVEN,), (HAT,), (FOUR,)],
    "whole_length": [(EVEN,), (HAT,), (FOUR,)],
    "round_paper": [(HAT,), (EVEN,)],
    "is_round_paper": [(HAT, (1, (1, -1, 0, 0, 1))), (HAT, (2, ONE)), (EVEN, None)],
    "power_far": [(EVEN, 10 ** 30), (HAT, -200), (HAT, 201), (FOUR, 0)],
    "turn_at": [(EVEN, 10 ** 30), (HAT, 0), (HAT, -201), (TURNED, 3)],
    "power_like": [(TURNED, QUARTERED), (EVEN, TURNED), (HAT, HAT)],
    "turned_about": [(EVEN, TURNED), (FOUR, FOUR)],
    "all_round": [((EVEN, QUARTERED),), ((EVEN, TURNED),)],
    "made_many": [((EVEN, QUARTERED),), ((EVEN, TURNED),), ((STILL,),)],
    "endless_chain": [((EVEN, TURNED),), ((HAT,),), ((STILL,),)],
    "is_endless_chain": [((EVEN, TURNED), (1, 0)), ((EVEN, TURNED), (0,)), ((STILL,), None)],
    "rounds_row": [(0,), (1,)],
    "is_marked": [(STRAIGHT,), (SIX,), (None,)],
    "place_led": [(STRAIGHT, 3), (CROSSED, 0), (CROSSED, 4), (SIX, 99)],
    "marked_table": [(STRAIGHT,), (CROSSED,), (SIX,)],
    "marked_of": [(TURNS,), ((1, ()),), (KNOT,), (FAR_WIRES,)],
    "marked_put": [(STRAIGHT, CROSSED), (FIVE, FIVE), (STRAIGHT, FIVE), (SIX, STRAIGHT), (STRAIGHT, SIX)],
    "marked_back": [(CROSSED,), (FIVE,), (SIX,)],
    "marked_alike": [(STRAIGHT, STRAIGHT), (STRAIGHT, CROSSED), (STRAIGHT, FIVE), (SIX, SIX)],
    "uneven_sum": [((1, 1, 7),), ((0, 0, 0),), (SIX[3],)],
    "is_uneven_sum": [((1, 1, 7), ((0, 1), 3)), ((1, 1, 7), ((0,), 1)), (SIX[3], None)],
    "turns_of": [((1, 1, 7),), ((0,),), (SIX[3],)],
    "polynomial_of": [((0, 1, 1, 0),), ((0, 0),), ((5, 1, 2, 3, 4, 5, 6, 7),), ((0,) * 64,)],
    "plain_marks": [((2, 2, 6),), (QUAD[3],), (SIX[3],)],
    "marks_seen": [((0, 1, 1, 0),), ((0, 0, 0, 1),), ((0,) * 64,)],
    "is_marks_seen": [((3, 4, 4, 3), (3, (0, 0, 1))), ((3, 4, 4, 3), (2, (0, 0, 1))), ((0,) * 64, None)],
    "bar_of_turns": [((0, 0, 0, 1),), ((0, 1, 1, 0),), ((0,) * 64,)],
    "is_turns_bar": [((0, 0, 0, 1), (0, 1)), ((0, 0, 0, 1), (0,)), ((0,) * 64, None)],
    "circuit_of_marked": [(STRAIGHT,), (CROSSED,), (QUAD,), (SIX,)],
    "eighths_of": [(KNOT,), (TURNS,), (FAR_WIRES,)],
    "odd_row": [((1, 1, 7),), ((2,),), (SIX[3],)],
    "code_rows": [(1,), (4,), (5,), (6,)],
    "is_code_row": [((0, 0, 0),), ((1,) * 15,), ((1, 0, 0),)],
    "eighths_needed": [(QUAD,), (STRAIGHT,), (SIX,)],
    "distances": [((1, 1, 7),), (QUAD[3],), (SIX[3],)],
    "is_distances": [(QUAD[3], 0, (15, 0)), (QUAD[3], 15, (15, 0)), (SIX[3], 0, None)],
    "nearest_rows": [((1, 1, 7),), (QUAD[3],), (SIX[3],)],
    "fewest_marked": [(QUAD,), (STRAIGHT,), (FIVE,), (SIX,)],
    "is_fewest": [(QUAD, (0, (8, 4, 2, 1), 5, (0,) * 15)), (QUAD, QUAD), (SIX, None)],
    "fewest_circuit": [(TURNS,), ((2, ()),), (KNOT,), (FAR_WIRES,)],
    "is_fewest_circuit": [(TURNS, TURNS), ((1, (("T", 0),) * 2), (1, (("T", 0),) * 2)), (KNOT, None), (FAR_WIRES, 0)],
    "merged_off": [(TURNS,), ((1, (("T", 0),) * 3),), (KNOT,), (FAR_WIRES,)],
    "saved": [(TURNS,), ((1, (("T", 0),) * 3),), (KNOT,), (FAR_WIRES,)],
    "is_quarter_map": [(QUAD,), (STRAIGHT,), (SIX,)],
    "quarter_circuit": [(QUAD,), (STRAIGHT,), (SIX,)],
    "needed_between": [(STRAIGHT, CROSSED), (FIVE, FIVE), (STRAIGHT, FIVE), (STRAIGHT, SIX)],
    "needing_many": [(2, 1), (4, 7), (3, 8), (5, 11), (6, 0)],
    "hardest_row": [(1,), (4,), (5,), (6,)],
    "flip_table": [(1, (1, 0)), (3, (5, 6)), (2, (0, 0))],
    "flip_of": [(QUARTERED,), (FOUR,), (EVEN,)],
    "flips_put": [((0, 1), (1, 0)), ((0, 0), (3, 2))],
    "led": [(TURNED, (1, 0)), (FOUR, (3, 1)), (EVEN, (0, 0))],
    "flips_kept": [(TURNED,), (FOUR,)],
    "first_unkept": [(TURNED,), (FOUR,)],
    "rung_of": [(TURNED,), (FOUR,), (HAT,)],
    "rungs_row": [(TURNED,), (EVEN,)],
    "rung_bar": [(TURNED, 2), (EVEN, 1), (EVEN, 3), (FOUR, 2)],
    "is_rung_bar": [(TURNED, 2, ((1, 1),)), (TURNED, 1, ()), (EVEN, 2, None), (TURNED, 5, ((1, 1),) * 4)],
    "steered": [(TURNED,), (STILL,)],
    "marked_led": [(STRAIGHT, (1, 0)), (QUAD, (15, 3)), (FIVE, (0, 0))],
    "rung_of_marked": [(STRAIGHT,), (QUAD,), (FIVE,)],
    "marked_bar": [(STRAIGHT, 2), (STRAIGHT, 1), (QUAD, 2)],
    "is_marked_bar": [(STRAIGHT, 2, ((1, 0),)), (STRAIGHT, 1, ()), (QUAD, 3, None)],
    "quarters_many": [(1,), (40,)],
    "real_parts": [(FIVE_SIZE,), (ZERO,)],
    "real_norm": [(FIVE_SIZE,), (ZERO,)],
    "prime_often": [(BARRED, (7, 3)), ((9, 0, 0, 0, 0), (3, 0))],
    "primes_of": [(BARRED,), (ONE,), (BIG,)],
    "is_a_size": [(BARRED,), (FIVE_SIZE,), (ZERO,), (BIG,)],
    "ray_of_size": [(FIVE_SIZE,), (ZERO,), (BARRED,), (BIG,)],
    "has_size": [((2, -1, 0, 0, 3), FIVE_SIZE), (W, ONE), (W, ZERO)],
    "size_bar": [(BARRED,), ((0, 1, 0, -1, 0),), (ONE,), (ZERO,), (BIG,)],
    "is_size_bar": [(BARRED, ("prime", 7, 3, 1)), (BARRED, ("twin",)), (ONE, None), (ZERO, None), (BIG, None)],
    "rays_with_size": [(ONE,), (ZERO,), (FIVE_SIZE,), ((61, 0, 0, 0, 0),)],
    "size_left": [((TOPS,),), ((),)],
    "can_fill": [((TOPS,), 1), ((TOPS,), 2), ((), 4), (((240, 1, 0, 0, 0),), 2)],
    "filled_by": [((TOPS,), 2), ((), 1), ((HALF,), 4), ((TOPS,), 1), (((240, 1, 0, 0, 0),), 2)],
    "is_filled_by": [((HALF,), 1, (HALF,)), ((), 1, (HALF,)), ((HALF,), 2, None)],
    "fill_bar": [((TOPS,), 1), ((TOPS,), 2), (((240, 1, 0, 0, 0),), 2)],
    "is_fill_bar": [((TOPS,), 1, ("prime", 7, 3, 1)), ((TOPS,), 2, ("below",)), (((240, 1, 0, 0, 0),), 2, None)],
    "table_with": [(HALF,), (ZERO,), (TOPS,), ((240, 1, 0, 0, 0),)],
    "is_table_with": [(HALF, EVEN), (ONE, EVEN), (TOPS, None)],
}

# Of what these return the whole is a list.
LISTS = ("words_of", "way_between", "rounds_row", "polynomial_of", "primes_of", "rays_with_size")
JUDGING = ("circuits_alike", "circuits_like", "comes_round", "all_round", "marked_alike", "has_size")

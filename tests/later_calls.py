"""Calls of each function of sections 16 to 21: ordinary ones, edges, and ones that raise."""

import drawn

ZERO, ONE, W, HALF, LESS = drawn.ZERO, drawn.ONE, (0, 1, 0, 0, 0), drawn.HALF, drawn.LESS
EVEN, STILL, TURNED = drawn.MIXED, drawn.still(2), ((ONE, ZERO), (ZERO, W))
FOUR, LAST = drawn.still(4), drawn.still(4)[:3] + ((ZERO, ZERO, ZERO, W),)
EIGHT = drawn.still(8)[:7] + ((ZERO,) * 7 + ((-1, 0, 0, 0, 0),),)
EIGHT_ONCE = drawn.still(8)[:7] + ((ZERO,) * 7 + (W,),)
THREE, BENT = drawn.still(3), ((ONE, ONE), (ZERO, ONE))
HELPED, LEFT = (3, (("CCX", 0, 1, 2), ("T", 2), ("CCX", 0, 1, 2))), (2, (("CX", 0, 1),))
UNIT, OTHER_UNIT, LOW, HIGH = (ONE, ZERO), (ZERO, ONE), (HALF, HALF), (HALF, LESS)
MIXED_STATE = (HALF, (0, 1, 0, 0, 1))
LOOSE = ((LOW, LOW), (HIGH, HIGH))
SEEN = LOOSE + ((UNIT, (HALF, (0, 0, -1, 0, 1))),)
CLASHING = ((UNIT, UNIT), (OTHER_UNIT, OTHER_UNIT), (LOW, LOW), ((HALF, (0, 0, 1, 0, 1)), (HALF, (0, 0, -1, 0, 1))))
UNFIT_SIGHTS = ((UNIT, UNIT), (LOW, LOW))
ONE_SIGHT = ((THREE[0], THREE[1]),)
GIVEN, ODD = tuple(tuple((ray, 1) for ray in row) for row in EVEN), (((ONE, 3), (ZERO, 1)), ((ZERO, 1), (ONE, 1)))
SPUN, PLAIN, TURNS_ONCE = (1, (("W",), ("X", 0))), (1, (("X", 0),)), (1, (("T", 0),))
ROLLS, HAT = TURNED, ((HALF, (0, 1, 0, 0, 1)), (HALF, (0, -1, 0, 0, 1)))
PARITY_MAP, SIX_MAP = (0, (2, 1), 0, (1, 1, 7)), (0, (32, 16, 8, 4, 2, 1), 0, (0,) * 63)
FAR_RAY = (240, 1, 0, 0, 0)
CLAIMS = {
    "made": ("made", GIVEN), "odd": ("made", ODD), "like": ("like", PLAIN, SPUN), "apart": ("like", PLAIN, TURNS_ONCE),
    "other wires": ("like", PLAIN, (2, ())), "round": ("round", ROLLS), "endless": ("round", HAT),
    "turned": ("turned", (3, 4, 4, 3)), "corner": ("turned", (0, 0, 0, 1)), "many turns": ("turned", (0,) * 64),
    "cheap": ("needs", PARITY_MAP, 3), "dear": ("needs", PARITY_MAP, 2), "many wires": ("needs", SIX_MAP, 3),
    "filled": ("filled", (HALF,), 1), "full": ("filled", ((1, 1, 0, 0, 1),), 1), "far": ("filled", (FAR_RAY,), 1),
    "alone": ("alone", EVEN), "helped": ("alone", LAST), "slanting": ("alone", BENT), "fits": ("fits", LOOSE),
    "clash": ("fits", CLASHING), "unfit": ("fits", UNFIT_SIGHTS), "loud": ("loud", GIVEN), "short": ("needs", PARITY_MAP),
    "long": ("made", GIVEN, GIVEN), "bare": ("fits",),
}
PAPERS = {
    "made": (("mix", 0, 1),), "odd": ("odd", 0, 0), "like": 7, "apart": (0, 1), "other wires": 0, "round": 16,
    "endless": (1, (1, -1, 0, 0, 1)), "turned": (3, (0, 0, 1)), "corner": (0, 1), "many turns": None, "cheap": PARITY_MAP,
    "dear": (3,), "many wires": None, "filled": (HALF,), "full": ("below",), "far": None, "alone": (1, (("H", 0),)),
    "helped": 1, "slanting": None, "fits": STILL, "clash": (0, 2, 3), "unfit": None, "loud": None, "short": (3,),
    "long": (), "bare": (0, 1),
}
DEEDS, DEEDS_TEXT = (("mix", 0, 1), ("turn", 12)), "mix 0 1\nturn 12"
REQUESTS = "H 0\nCX 0 1\nbehind 0\nput 1 T 0\neighths\nlike 2\nout 3\nundo\nredo\nredo\nS 2\ngates\nbehind 4\nlike 9"

LATER_CALLS = {
    "determinant_turn": [(TURNED,), (LAST,), (EIGHT,), (BENT,), (THREE,)],
    "wires_alone": [(TURNED,), (LAST,), (EIGHT,), (BENT,), (THREE,)],
    "gates_for": [(EVEN,), (FOUR,), (EIGHT,), (LAST,), (EIGHT_ONCE,), (THREE,)],
    "is_gates_for": [(EVEN, (1, (("H", 0),))), (LAST, (2, ())), (FOUR, None), (BENT, (1, ()))],
    "helper_bar": [(LAST,), (EIGHT_ONCE,), (TURNED,), (THREE,)],
    "is_helper_bar": [(LAST, 1), (LAST, 2), (FOUR, 0), (THREE, 0)],
    "with_helper": [(TURNED,), (LAST,), (FOUR,), (BENT,)],
    "is_with_helper": [(LAST, HELPED), (LAST, LEFT), (STILL, (2, ())), (THREE, HELPED)],
    "helper_back": [(HELPED,), (LEFT,), ((2, ()),)],
    "helped_table": [(HELPED,), (LEFT,), ((2, ()),)],
    "helper_left": [(LEFT,), (HELPED,)],
    "is_helper_left": [(LEFT, (2, 3)), (LEFT, (0, 1)), (HELPED, None)],
    "alone_turns": [(TURNED,), (LAST,), (EIGHT,), (BENT,)],
    "controlled": [(TURNED,), (LAST,), (BENT,), (THREE,)],
    "gates_of_deed": [(1, ("turn", 0)), (2, ("mix", 0, 3)), (3, ("swap", 1, 6)), (2, ("turn", 1)), (2, ("mix", 4, 7))],
    "two_turned": [(1, 0, 1), (3, 6, 1), (2, 4, 4), (2, 1, -1), (2, 1, 1)],
    "rays_of_size": [(2, 1), (0, 0), (3, 1), (-1, 0)],
    "sizes_to": [(0,), (2,), (9,)],
    "states_many": [(2, 0), (3, 2), (8, 3)],
    "states_of_power": [(2, 0), (3, 2)],
    "state_by_number": [(2, 1, 0), (3, 0, 23), (2, 0, 16), (2, 0, -1)],
    "number_of_state": [(MIXED_STATE, 1), (UNIT, 0), (MIXED_STATE, 0)],
    "rests_of": [(MIXED_STATE, 1), (UNIT, 3), (MIXED_STATE, 0)],
    "rests_many": [(2, 2), (3, 0)],
    "shapes_of": [(2, 2), (3, 0)],
    "shape_of": [(MIXED_STATE, 2), (UNIT, 0), (MIXED_STATE, 0)],
    "shape_many": [(((2, -1), (2, 1)),), (((0, 0), (0, 0), (1, 0)),)],
    "plain_state": [(MIXED_STATE,), (UNIT,)],
    "plain_many": [(2, 2), (3, 0)],
    "fit_for": [(LOOSE,), (ONE_SIGHT,), (CLASHING,), (UNFIT_SIGHTS,)],
    "is_fit": [(LOOSE, STILL), (SEEN, STILL), (ONE_SIGHT, THREE), (UNFIT_SIGHTS, STILL)],
    "clash_of": [(CLASHING,), (((LOW, LOW), (HIGH, LOW)),), (LOOSE,), (UNFIT_SIGHTS,)],
    "is_clash": [(CLASHING, (3, 2, 0)), (CLASHING, (2, 3)), (LOOSE, None), (UNFIT_SIGHTS, (0, 1))],
    "sure_sizes": [(LOOSE,), (SEEN,), (ONE_SIGHT,), (CLASHING,), (UNFIT_SIGHTS,)],
    "is_claim": [(CLAIMS["made"],), (CLAIMS["other wires"],), (CLAIMS["bare"],), (None,)],
    "is_so": [(claim,) for claim in CLAIMS.values()],
    "paper": [(claim,) for claim in CLAIMS.values()],
    "is_paper": [(CLAIMS[name], PAPERS[name]) for name in CLAIMS],
    "shows": [(CLAIMS[name], PAPERS[name]) for name in CLAIMS],
    "not_so": [((),), ((CLAIMS["made"], CLAIMS["odd"], CLAIMS["clash"]),), ((CLAIMS["made"], CLAIMS["loud"]),)],
    "words_so": [((),), ((CLAIMS["round"], CLAIMS["made"], CLAIMS["odd"]),), ((CLAIMS["bare"], CLAIMS["loud"]),)],
    "table_text": [(EVEN,), (LAST,), (BENT,)],
    "deeds_text": [(DEEDS,), ((),)],
    "circuit_text": [(HELPED,), ((2, ()),)],
    "table_read": [("1,0,0,0,1 1,0,0,0,1\n1,0,0,0,1 -1,0,0,0,1",), ("",), ("1,0,0,0,1",)],
    "deeds_read": [(DEEDS_TEXT,), ("",), ("turn 0\n",)],
    "circuit_read": [("wires 2\nCX 1 0",), ("wires 1",), ("",), ("wires 1\nH 1",)],
    "is_request": [("CX 0 9",), ("undo",), ("undo ",), ("",)],
    "replies": [(2, REQUESTS), (1, ""), (3, "undo\n"), (1, "S 1")],
}

LATER_LISTS = ("replies",)
LATER_JUDGING = ("wires_alone", "helper_back")

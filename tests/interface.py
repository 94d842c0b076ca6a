"""The part of the document's interface that has landed: files, names, parameters."""

import importlib

INTERFACE = {
    "rays": {
        "is_ray": "thing", "ray_of": "numbers k", "ray_sum": "one other", "ray_product": "one other",
        "turned_ray": "ray many", "mirrored": "ray", "twin_of": "ray", "size_of": "ray", "is_real": "ray",
        "sign_of": "ray", "over_root": "ray many", "rest_of": "ray k", "eighth_of": "ray",
    },
    "tables": {
        "is_table": "thing", "still_table": "rows", "table_product": "one other", "table_power": "table many",
        "made_of": "table state", "table_mirrored": "table", "twin_table": "table", "is_upright": "table",
        "slant_of": "table", "is_slant": "table thing", "determinant": "table", "like_turn": "one other",
        "beside_tables": "one other",
    },
    "deeds": {
        "is_deed": "many thing", "are_deeds": "many thing", "deed_done": "state deed",
        "deeds_done": "state deeds", "deeds_table": "many deeds", "deeds_back": "deeds",
        "deeds_of_gate": "n gate", "deeds_of_circuit": "circuit", "deed_counts": "deeds",
        "plain_deeds": "deeds", "first_idle": "many deeds", "is_idle_stretch": "many deeds thing",
        "without_idle": "many deeds", "parting_start": "many one other",
        "is_parting_start": "many one other thing",
    },
    "circuits": {
        "is_gate": "n thing", "is_circuit": "thing", "gate_table": "n gate", "circuit_table": "circuit",
        "run_state": "circuit state", "circuit_back": "circuit", "put_behind": "one other",
        "wires_moved": "circuit many wires", "circuits_alike": "one other", "circuits_like": "one other",
        "parting_place": "one other", "is_parting_place": "one other thing", "parting_pair": "one other",
        "is_parting_pair": "one other thing",
    },
    "made": {
        "is_given": "thing", "rays_given": "given", "is_made": "given", "bar_of": "given",
        "is_bar": "given thing", "deeds_for": "given", "is_deeds_for": "given thing", "power_chart": "table",
        "least_power": "table", "can_begin": "columns many", "table_from": "columns many",
        "is_table_from": "columns many thing", "blocks": "table", "needed_places": "table",
        "plain_cost": "table",
    },
    "states": {
        "is_state": "thing", "sizes_of": "state", "state_power": "state", "kinds_of": "state",
        "pair_alike": "state", "mates_down": "state", "deeds_to": "state", "deeds_between": "one other",
        "is_leading": "one other thing", "mixes_within": "state most", "product_of": "one other",
        "like_states": "one other", "twin_state": "state",
    },
    "readings": {
        "quarter_tables": "", "is_quarter": "thing", "is_reading": "thing", "reading_of": "table",
        "reading_table": "reading", "reading_put": "one other", "reading_back": "reading",
        "fewest_eighths": "table", "eighths_saved": "circuit", "circuit_of_reading": "reading",
        "axes_table": "table", "axes_power": "table", "words_of": "table length", "shortest_word": "table",
    },
    "counted": {
        "tables_many": "many", "tables_at_most": "many", "reading_by_number": "number",
        "number_of_reading": "reading", "next_reading": "reading", "letters_of": "table",
        "letters_moved": "table letters", "way_between": "letters other", "middle_of": "letters other third",
        "near_both": "letters other most", "least_shift": "table", "least_moved": "table",
    },
    "rounds": {
        "main_sums": "table", "comes_round": "table", "round_length": "table", "whole_length": "table",
        "round_paper": "table", "is_round_paper": "table thing", "power_far": "table times",
        "turn_at": "table times", "power_like": "table other", "turned_about": "table other",
        "all_round": "tables", "made_many": "tables", "endless_chain": "tables",
        "is_endless_chain": "tables thing", "rounds_row": "most",
    },
    "marks": {
        "is_marked": "thing", "place_led": "marked place", "marked_table": "marked", "marked_of": "circuit",
        "marked_put": "one other", "marked_back": "marked", "marked_alike": "one other", "uneven_sum": "marks",
        "is_uneven_sum": "marks thing", "turns_of": "marks", "polynomial_of": "turns", "plain_marks": "marks",
        "marks_seen": "turns", "is_marks_seen": "turns thing", "bar_of_turns": "turns",
        "is_turns_bar": "turns thing", "circuit_of_marked": "marked",
    },
    "fewest": {
        "eighths_of": "circuit", "odd_row": "marks", "code_rows": "wires", "is_code_row": "thing",
        "eighths_needed": "marked", "distances": "marks", "is_distances": "marks many thing",
        "nearest_rows": "marks", "fewest_marked": "marked", "is_fewest": "marked thing",
        "fewest_circuit": "circuit", "is_fewest_circuit": "circuit thing", "merged_off": "circuit",
        "saved": "circuit", "is_quarter_map": "marked", "quarter_circuit": "marked",
        "needed_between": "one other", "needing_many": "wires many", "hardest_row": "wires",
    },
    "rungs": {
        "flip_table": "n flip", "flip_of": "table", "flips_put": "one other", "led": "table flip",
        "flips_kept": "table", "first_unkept": "table", "rung_of": "table", "rungs_row": "table",
        "rung_bar": "table rung", "is_rung_bar": "table rung thing", "steered": "table",
        "marked_led": "marked flip", "rung_of_marked": "marked", "marked_bar": "marked rung",
        "is_marked_bar": "marked rung thing", "quarters_many": "n",
    },
    "fills": {
        "real_parts": "real", "real_norm": "real", "prime_often": "real prime", "primes_of": "real",
        "is_a_size": "real", "ray_of_size": "real", "has_size": "ray real", "size_bar": "real",
        "is_size_bar": "real thing", "rays_with_size": "real", "size_left": "rays", "can_fill": "rays many",
        "filled_by": "rays many", "is_filled_by": "rays many thing", "fill_bar": "rays many",
        "is_fill_bar": "rays many thing", "table_with": "ray", "is_table_with": "ray thing",
    },
    "helpers": {
        "determinant_turn": "table", "wires_alone": "table", "gates_for": "table", "is_gates_for": "table thing",
        "helper_bar": "table", "is_helper_bar": "table thing", "with_helper": "table",
        "is_with_helper": "table thing", "helper_back": "circuit", "helped_table": "circuit",
        "helper_left": "circuit", "is_helper_left": "circuit thing", "alone_turns": "table", "controlled": "table",
        "gates_of_deed": "n deed", "two_turned": "n one other",
    },
    "rowcounts": {
        "rays_of_size": "a b", "sizes_to": "most", "states_many": "N k", "states_of_power": "N k",
        "state_by_number": "N k number", "number_of_state": "state k", "rests_of": "state k", "rests_many": "N k",
        "shapes_of": "N k", "shape_of": "state k", "shape_many": "shape", "plain_state": "state", "plain_many": "N k",
    },
    "told": {
        "fit_for": "sights", "is_fit": "sights thing", "clash_of": "sights", "is_clash": "sights thing",
        "sure_sizes": "sights",
    },
    "judge": {
        "is_claim": "thing", "is_so": "claim", "paper": "claim", "is_paper": "claim thing", "shows": "claim thing",
        "not_so": "claims", "words_so": "claims",
    },
    "texts": {
        "table_text": "table", "deeds_text": "deeds", "circuit_text": "circuit", "table_read": "text",
        "deeds_read": "text", "circuit_read": "text",
    },
    "desk": {"is_request": "line", "replies": "wires text"},
}

# The class Board of board.py: its methods, and what they are told behind their own object.
BOARD_METHODS = {
    "__init__": "wires", "circuit_now": "", "table_now": "", "edits": "", "do": "edit", "put_last": "gate", "undo": "",
    "redo": "", "behind": "place", "eighths_now": "", "like_at": "many", "__eq__": "other", "__len__": "",
}

ERRORS = {
    "NoPlace": (LookupError, "number"), "NoWire": (LookupError, "number"), "NoGate": (LookupError, "number"),
    "NoEdit": (LookupError, "number"), "NoWord": (LookupError, "word"), "NothingDone": (LookupError, None),
    "Unfit": (ValueError, None), "NoPaper": (ValueError, None), "TooMany": (ValueError, None),
    "BadLine": (ValueError, "number"),
}


def module_named(name):
    return importlib.import_module("eighthturns." + name)


def functions():
    """All functions of the interface, by their names."""
    return {name: getattr(module_named(module), name) for module in INTERFACE for name in INTERFACE[module]}


def parameters(name):
    return [INTERFACE[module][name].split() for module in INTERFACE if name in INTERFACE[module]][0]

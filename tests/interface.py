"""The part of the document's interface that has landed: files, names, parameters."""

import importlib

INTERFACE = {
    "rays": {
        "is_ray": "thing", "ray_of": "numbers k", "ray_sum": "one other", "ray_product": "one other",
        "turned_ray": "ray many", "mirrored": "ray", "twin_of": "ray", "size_of": "ray", "is_real": "ray",
        "sign_of": "ray", "over_root": "ray many", "rest_of": "ray k", "eighth_of": "ray",
    },
    "tables": {
        "is_table": "thing", "still_table": "rows", "table_product": "one other", "table_power": "table many",
        "made_of": "table state", "table_mirrored": "table", "twin_table": "table", "is_upright": "table",
        "slant_of": "table", "is_slant": "table thing", "determinant": "table", "like_turn": "one other",
        "beside_tables": "one other",
    },
    "deeds": {
        "is_deed": "many thing", "are_deeds": "many thing", "deed_done": "state deed",
        "deeds_done": "state deeds", "deeds_table": "many deeds", "deeds_back": "deeds",
        "deeds_of_gate": "n gate", "deeds_of_circuit": "circuit", "deed_counts": "deeds",
        "plain_deeds": "deeds", "first_idle": "many deeds", "is_idle_stretch": "many deeds thing",
        "without_idle": "many deeds", "parting_start": "many one other",
        "is_parting_start": "many one other thing",
    },
    "circuits": {
        "is_gate": "n thing", "is_circuit": "thing", "gate_table": "n gate", "circuit_table": "circuit",
        "run_state": "circuit state", "circuit_back": "circuit", "put_behind": "one other",
        "wires_moved": "circuit many wires", "circuits_alike": "one other", "circuits_like": "one other",
        "parting_place": "one other", "is_parting_place": "one other thing", "parting_pair": "one other",
        "is_parting_pair": "one other thing",
    },
    "made": {
        "is_given": "thing", "rays_given": "given", "is_made": "given", "bar_of": "given",
        "is_bar": "given thing", "deeds_for": "given", "is_deeds_for": "given thing", "power_chart": "table",
        "least_power": "table", "can_begin": "columns many", "table_from": "columns many",
        "is_table_from": "columns many thing", "blocks": "table", "needed_places": "table",
        "plain_cost": "table",
    },
    "states": {
        "is_state": "thing", "sizes_of": "state", "state_power": "state", "kinds_of": "state",
        "pair_alike": "state", "mates_down": "state", "deeds_to": "state", "deeds_between": "one other",
        "is_leading": "one other thing", "mixes_within": "state most", "product_of": "one other",
        "like_states": "one other", "twin_state": "state",
    },
}

ERRORS = {
    "NoPlace": (LookupError, "number"), "NoWire": (LookupError, "number"), "NoGate": (LookupError, "number"),
    "NoEdit": (LookupError, "number"), "NoWord": (LookupError, "word"), "NothingDone": (LookupError, None),
    "Unfit": (ValueError, None), "NoPaper": (ValueError, None), "TooMany": (ValueError, None),
    "BadLine": (ValueError, "number"),
}


def module_named(name):
    return importlib.import_module("eighthturns." + name)


def functions():
    """All functions of the interface, by their names."""
    return {name: getattr(module_named(module), name) for module in INTERFACE for name in INTERFACE[module]}


def parameters(name):
    return [INTERFACE[module][name].split() for module in INTERFACE if name in INTERFACE[module]][0]

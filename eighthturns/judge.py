"""Judge: what is claimed, whether it is so, and one judge for all papers of it."""

from eighthturns.circuits import (check_wires_alike, circuit_table, circuits_like, is_circuit, is_parting_pair,
                                  parting_pair)
from eighthturns.errors import NoWord, Unfit
from eighthturns.fewest import distances, eighths_needed, fewest_marked, is_distances, odd_row
from eighthturns.fills import can_fill, fill_bar, filled_by, is_fill_bar, is_filled_by
from eighthturns.helpers import gates_for, helper_bar, is_gates_for, is_helper_bar, wires_alone
from eighthturns.made import bar_of, deeds_for, is_bar, is_deeds_for, is_given, is_made
from eighthturns.maps import check_few
from eighthturns.marks import (bar_of_turns, bars_of_turns, is_marked, is_marks_seen, is_turns_bar, marked_alike,
                               marks_seen)
from eighthturns.rays import is_ray
from eighthturns.rounds import comes_round, is_round_paper, round_length, round_paper
from eighthturns.shapes import are_below, frozen, is_below, is_number
from eighthturns.states import is_state
from eighthturns.tables import is_table, is_upright, like_turn
from eighthturns.told import clash_of, first_clash, fit_for, is_clash, is_fit

# How many things a CLAIM of each word has, the word counted.
LENGTHS = {"made": 2, "like": 3, "round": 2, "turned": 2, "needs": 3, "filled": 3, "alone": 2, "fits": 2}
# The lengths of all TABLES of at most four rows divide this.
ALL_ROUND = 480


def is_claim(thing):
    """Whether thing is a CLAIM."""
    if not isinstance(thing, tuple) or len(thing) == 0 or not isinstance(thing[0], str):
        return False
    return LENGTHS.get(thing[0], 0) == len(thing) and has_shape(thing)


def has_shape(thing):
    """Whether the things behind the word are of the kinds that its point has."""
    word, own = thing[0], thing[1]
    if word == "made":
        return is_given(own)
    if word == "like":
        return is_circuit(own) and is_circuit(thing[2]) and own[0] == thing[2][0]
    if word == "round":
        return is_table(own) and is_upright(own)
    if word == "turned":
        return are_turns(own)
    if word == "needs":
        return is_marked(own) and is_number(thing[2]) and thing[2] >= 0
    if word == "filled":
        return are_rays_or_none(own) and is_number(thing[2]) and thing[2] >= 1
    if word == "alone":
        return is_table(own) and len(own) in (2, 4, 8) and is_upright(own)
    return are_sights(own)


def are_turns(thing):
    """Whether thing is TURNS of some number of wires."""
    if not isinstance(thing, tuple) or len(thing) < 2:
        return False
    many = len(thing)
    return many & (many - 1) == 0 and are_below(thing, 8, many)


def are_rays_or_none(thing):
    """Whether thing is a tuple, maybe (), of RAYS."""
    return isinstance(thing, tuple) and all([is_ray(part) for part in thing])


def are_sights(thing):
    """Whether thing is SIGHTS."""
    if not isinstance(thing, tuple) or len(thing) == 0:
        return False
    if not all([isinstance(sight, tuple) and len(sight) == 2 for sight in thing]):
        return False
    states = [state for sight in thing for state in sight]
    return all([is_state(state) and len(state) == len(states[0]) for state in states])


def known(claim):
    """The CLAIM, made of tuples; NoWord or Unfit if it is none."""
    own = frozen(claim)
    if own[0] not in LENGTHS:
        raise NoWord(own[0])
    if len(own) != LENGTHS[own[0]]:
        raise Unfit()
    return own


def is_so(claim):
    """Whether the CLAIM is so."""
    told = known(claim)
    word, own = told[0], told[1]
    if word == "made":
        return is_made(own)
    if word == "like":
        return circuits_like(own, told[2])
    if word == "round":
        return comes_round(own)
    if word == "turned":
        return len(bars_of_turns(own)) == 0
    if word == "needs":
        return eighths_needed(own) <= told[2]
    if word == "filled":
        return can_fill(own, told[2])
    if word == "alone":
        return wires_alone(own)
    return first_clash(own) is None


def paper(claim):
    """A PAPER of the CLAIM."""
    told = known(claim)
    return paper_so(told) if is_so(told) else paper_not(told)


def paper_so(told):
    """A PAPER that the CLAIM is so."""
    word, own = told[0], told[1]
    if word == "made":
        return deeds_for(own)
    if word == "like":
        return like_turn(circuit_table(own), circuit_table(told[2]))
    if word == "round":
        return round_length(own)
    if word == "turned":
        return marks_seen(own)
    if word == "needs":
        return fewest_marked(own)
    if word == "filled":
        return filled_by(own, told[2])
    if word == "alone":
        return gates_for(own)
    return fit_for(own)


def paper_not(told):
    """A PAPER that the CLAIM is not so."""
    word, own = told[0], told[1]
    if word == "made":
        return bar_of(own)
    if word == "like":
        return parting_pair(own, told[2])
    if word == "round":
        return round_paper(own)
    if word == "turned":
        return bar_of_turns(own)
    if word == "needs":
        return distances(own[3])
    if word == "filled":
        return fill_bar(own, told[2])
    if word == "alone":
        return helper_bar(own)
    return clash_of(own)


def is_paper(claim, thing):
    """Whether thing is a PAPER of the CLAIM."""
    return shows(claim, thing) is not None


def shows(claim, thing):
    """True or False if thing is a PAPER that the CLAIM is so, or is not; None if it is none."""
    told = known(claim)
    if shows_so(told, thing):
        return True
    return False if shows_not(told, thing) else None


def shows_so(told, thing):
    """Whether thing is a PAPER that the CLAIM is so."""
    word, own = told[0], told[1]
    if word == "made":
        return is_deeds_for(own, thing)
    if word == "like":
        return is_like_turn(own, told[2], thing)
    if word == "round":
        return is_number(thing) and 1 <= thing <= ALL_ROUND and comes_round(own) and thing % round_length(own) == 0
    if word == "turned":
        return is_marks_seen(own, thing)
    if word == "needs":
        return is_cheap(own, told[2], thing)
    if word == "filled":
        return is_filled_by(own, told[2], thing)
    if word == "alone":
        return is_gates_for(own, thing)
    return is_fit(own, thing)


def is_like_turn(one, other, thing):
    """Whether thing is the number of turns that make the TABLE of one of that of other."""
    check_wires_alike(one, other)
    return is_below(thing, 8) and like_turn(circuit_table(one), circuit_table(other)) == thing


def is_cheap(marked, many, thing):
    """Whether thing is a MARKED MAP that makes the same, with at most so many odd marks."""
    check_few(len(marked[1]))
    if not is_marked(thing) or len(thing[1]) != len(marked[1]):
        return False
    return sum(odd_row(thing[3])) <= many and marked_alike(marked, thing)


def shows_not(told, thing):
    """Whether thing is a PAPER that the CLAIM is not so."""
    word, own = told[0], told[1]
    if word == "made":
        return is_bar(own, thing)
    if word == "like":
        return is_parting_pair(own, told[2], thing)
    if word == "round":
        return is_round_paper(own, thing)
    if word == "turned":
        return is_turns_bar(own, thing)
    if word == "needs":
        needed = eighths_needed(own)
        return needed > told[2] and is_distances(own[3], needed, thing)
    if word == "filled":
        return is_fill_bar(own, told[2], thing)
    if word == "alone":
        return is_helper_bar(own, thing)
    return is_clash(own, thing)


def not_so(claims):
    """The set of the numbers of those that are not so."""
    return tuple([number for number, claim in enumerate(claims) if not is_so(claim)])


def words_so(claims):
    """The set of the words of the CLAIMS, those left out of which one is not so."""
    so_of = {}
    for claim in claims:
        so_of[claim[0]] = is_so(claim) and so_of.get(claim[0], True)
    return tuple(sorted([word for word in so_of if so_of[word]]))

"""Desk: requests, one a line, and the replies of a Board to them."""

from eighthturns.board import Board
from eighthturns.circuits import is_gate
from eighthturns.errors import BadLine, NoEdit, NoGate, NoPlace, NothingDone, NoWire
from eighthturns.figures import is_figures, lines_of, number_read, number_text

MOST_FIGURES = 13
BARE_WORDS = ("undo", "redo", "gates", "eighths")
NUMBER_WORDS = ("out", "behind", "like")


def numbers_of(words):
    """The list of the numbers that these words are, None for one that is none or has too many figures."""
    return [number_read(word) if is_figures(word) and len(word) <= MOST_FIGURES else None for word in words]


def gate_of(words):
    """The GATE that these words tell, of whatever wires, or None."""
    gate = (words[0],) + tuple(numbers_of(words[1:]))
    wires = max([0] + [number for number in gate[1:] if number is not None]) + 1
    return gate if is_gate(wires, gate) else None


def request_of(line):
    """The tuple that this line asks for, an EDIT or a word and its number, or None."""
    words = line.split(" ")
    if words[0] in BARE_WORDS:
        return (words[0],) if len(words) == 1 else None
    if words[0] in NUMBER_WORDS or words[0] == "put":
        number = numbers_of(words[1:2])
        if len(number) == 0 or number[0] is None:
            return None
        if words[0] != "put":
            return (words[0], number[0]) if len(words) == 2 else None
        gate = gate_of(words[2:]) if len(words) > 2 else None
        return None if gate is None else ("put", number[0], gate)
    gate = gate_of(words)
    return None if gate is None else ("gate", gate)


def is_request(line):
    """Whether this is a request."""
    return request_of(line) is not None


def state_text(state):
    """The RAYS of the STATE as a reply tells them."""
    return ", ".join([" ".join([number_text(number) for number in ray]) for ray in state])


def answer(board, request):
    """What the Board has to reply to the request, if nothing is raised."""
    word = request[0]
    if word == "gates":
        return str(len(board.circuit_now()[1]))
    if word == "eighths":
        return str(board.eighths_now())
    if word == "behind":
        return state_text(board.behind(request[1]))
    if word == "like":
        return "yes" if board.like_at(request[1]) else "no"
    if word == "undo":
        board.undo()
    elif word == "redo":
        board.redo()
    else:
        board.do(request)
    return "done"


def reply_of(board, request):
    """The reply of the Board to the request."""
    try:
        return answer(board, request)
    except NoWire:
        return "no NoWire"
    except NoGate:
        return "no NoGate"
    except NoPlace:
        return "no NoPlace"
    except NoEdit:
        return "no NoEdit"
    except NothingDone:
        return "no NothingDone"


def replies(wires, text):
    """The list of the replies to the requests of the text, by a new Board."""
    requests = [request_of(line) for line in lines_of(text)]
    for number, request in enumerate(requests):
        if request is None:
            raise BadLine(number)
    board = Board(wires)
    return [reply_of(board, request) for request in requests]

"""A desk: lines of requests to a Board of Programs, and the answers to them."""

from seatsahead.board import Board
from seatsahead.errors import BadLine, BadPair, BadText, Known, NoProgram, NoStep, NothingDone, OtherSteps
from seatsahead.lines import two_lines
from seatsahead.places import fewest_places
from seatsahead.programs import Program
from seatsahead.sizes import check_count, least_peak
from seatsahead.texts import is_name, sizes_from, steps_text

DONE = "done"
# What stands behind the word of a request; a text of a Program and SIZES are all that is left of the line.
PARTS = {
    "program": ("NAME", "PROGRAM"),
    "drop": ("NAME",),
    "rename": ("NAME", "TO"),
    "undo": (),
    "wait": ("NAME", "ONE", "OTHER"),
    "run": ("NAME", "ONE", "OTHER"),
    "hold": ("NAME", "ONE"),
    "names": (),
    "text": ("NAME",),
    "meet": ("NAME", "ONE", "OTHER"),
    "room": ("NAME", "SIZES"),
    "least": ("NAME", "SIZES"),
    "places": ("NAME",),
    "lines": ("NAME",),
    "factor": ("NAME", "TO"),
    "never": ("NAME", "TO"),
}


def answers(text):
    """The answers to the lines of this text, in order."""
    lines = [] if text == "" else text.split("\n")
    requests = [_request_from(number, line) for number, line in enumerate(lines)]
    board = Board()
    told = []
    for word, values in requests:
        told.append(_answer(board, word, values))
    return told


def _request_from(number, line):
    """The word of this request and the values behind it; raises BadLine with the number."""
    word = line.split(" ")[0]
    if word not in PARTS:
        raise BadLine(number)
    parts = PARTS[word]
    # What is too much stays with the last part, or with the word itself if there are no parts.
    first, *pieces = line.split(" ", len(parts))
    if first != word or len(pieces) != len(parts):
        raise BadLine(number)
    try:
        return word, [_value_from(part, piece) for part, piece in zip(parts, pieces)]
    except BadText:
        raise BadLine(number) from None


def _value_from(part, piece):
    if part == "PROGRAM":
        return Program.of(piece)
    if part == "SIZES":
        return sizes_from(piece)
    if not is_name(piece):
        raise BadText(0)
    return piece


def _put(board, name, program):
    board.put(name, program)
    return DONE


def _drop(board, name):
    board.drop(name)
    return DONE


def _rename(board, name, new):
    board.rename(name, new)
    return DONE


def _undo(board):
    board.undo()
    return DONE


def _wait(board, name, one, other):
    board.let_wait(name, one, other)
    return DONE


def _run(board, name, one, other):
    board.let_run(name, one, other)
    return DONE


def _hold(board, name, value):
    board.hold(name, value)
    return DONE


def _names(board):
    return steps_text(board.names)


def _text(board, name):
    return board[name].text


def _meet(board, name, one, other):
    return _yes_or_no(board.can_meet(name, one, other))


def _room(board, name, sizes):
    worst, lots = board.room_for(name, sizes)
    return f"{worst} {lots}"


def _least(board, name, sizes):
    program = board[name]
    check_count(program, sizes)
    return str(least_peak(program, sizes))


def _places(board, name):
    return str(fewest_places(board[name]))


def _lines(board, name):
    return _yes_or_no(two_lines(board[name]) is not None)


def _factor(board, name, to):
    return str(board.lot_factor(name, to))


def _never(board, name, to):
    return _yes_or_no(board.never_worse(name, to))


def _yes_or_no(right):
    return "yes" if right else "no"


ACTIONS = {
    "program": _put,
    "drop": _drop,
    "rename": _rename,
    "undo": _undo,
    "wait": _wait,
    "run": _run,
    "hold": _hold,
    "names": _names,
    "text": _text,
    "meet": _meet,
    "room": _room,
    "least": _least,
    "places": _places,
    "lines": _lines,
    "factor": _factor,
    "never": _never,
}


def _answer(board, word, values):
    """What the Board tells, or that it refuses and why."""
    action = ACTIONS[word]
    try:
        return action(board, *values)
    except NoProgram:
        return "refused NoProgram"
    except Known:
        return "refused Known"
    except NoStep:
        return "refused NoStep"
    except BadPair:
        return "refused BadPair"
    except OtherSteps:
        return "refused OtherSteps"
    except NothingDone:
        return "refused NothingDone"

"""Waits put in so that told rows of values are dead ahead of one another."""

from seatsahead.errors import BadPair
from seatsahead.meets import all_dead, all_meets
from seatsahead.programs import Program, all_ends, check_names, readers, with_wait


def are_rows(program, rows):
    """Whether in all told rows each value is dead ahead of the next one."""
    _check_rows(program, rows)
    dead = all_dead(program)
    return all([pair in dead for pair in _pairs_in(rows)])


def forced_ends(program, rows):
    """The ascending pairs of steps of which one is surely ended ahead of the other one once all told rows are right.

    Those of the Program itself are left out. None if no WAITS make the told rows right.
    """
    _check_rows(program, rows)
    if any([one in program.kept for one, _ in _pairs_in(rows)]):
        return None
    ends = all_ends(program)
    try:
        right = _with_waits(program, _wanted(program, rows))
    except BadPair:
        return None
    return tuple([pair for pair in all_ends(right) if pair not in ends])


def with_rows(program, rows):
    """The Program in which as few pairs of forced_ends as can be make all told rows right; None likewise."""
    forced = forced_ends(program, rows)
    if forced is None:
        return None
    ends = {pair: True for pair in all_ends(program) + forced}

    def is_led_to(one, other):
        return any([(one, step) in ends and (step, other) in ends for step in program.steps])

    # A pair with a step between comes about by two others; one without can't come about but by itself.
    return _with_waits(program, [(one, other) for one, other in forced if not is_led_to(one, other)])


def fewest_waits(program, rows):
    """The least number of WAITS that make all told rows right; None if no WAITS do."""
    forced = forced_ends(program, rows)
    if forced is None:
        return None
    ends = all_ends(program)
    goal = ends + forced
    wanted = _wanted(program, rows)
    # All that comes about by so many WAITS, each time by one more.
    orders = [ends]
    many = 0
    while not any([all([pair in order for pair in wanted]) for order in orders]):
        orders = _with_one_more(program, goal, orders)
        many += 1
    return many


def parted_by(program, one, other):
    """The ascending pairs of values that can meet, but not if other waits for one, too."""
    later = all_meets(with_wait(program, one, other))
    return tuple([pair for pair in all_meets(program) if pair not in later])


def is_idle_wait(program, one, other):
    """Whether this wait parts no values."""
    return parted_by(program, one, other) == ()


def _check_rows(program, rows):
    check_names(program.steps, [value for row in rows for value in row])


def _pairs_in(rows):
    return [pair for row in rows for pair in zip(row, row[1:])]


def _wanted(program, rows):
    """The pairs of steps of which one must be surely ended ahead of the other one."""
    return [(user, other) for one, other in _pairs_in(rows) for user in (one, *readers(program, one))]


def _with_waits(program, pairs):
    return Program(program.steps, program.reads, [*program.waits, *pairs], program.kept)


def _with_one_more(program, goal, orders):
    """What comes about of these orders, sets of pairs, by one pair more each that is not against the goal."""
    found = {}
    for order in orders:
        for one in program.steps:
            for other in program.steps:
                if one != other and (one, other) not in order and (other, one) not in order + goal:
                    found[_joined(program, order, one, other)] = True
    return list(found)


def _joined(program, order, one, other):
    """The order with this pair, too, and all that follows from it."""
    ahead = [step for step in program.steps if step == one or (step, one) in order]
    behind = [step for step in program.steps if step == other or (other, step) in order]
    pairs = [*order, *[(first, last) for first in ahead for last in behind]]
    return tuple(sorted(set(pairs)))

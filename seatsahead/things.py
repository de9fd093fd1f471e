"""What a thing is that may be any value: nothing here fails, whatever is handed in."""


def is_number(thing):
    """Whether thing is an integer; True and False are none."""
    return isinstance(thing, int) and not isinstance(thing, bool)


def is_pair(thing):
    """Whether thing is a tuple of two, whatever these are."""
    return isinstance(thing, tuple) and len(thing) == 2


def is_ascending(thing):
    """Whether each item of a tuple of comparable ones is greater than the one ahead of it."""
    return all([one < other for one, other in zip(thing, thing[1:])])


def are_steps(steps, thing):
    """Whether thing is a tuple of steps, in any order, a step maybe more than once."""
    return isinstance(thing, tuple) and all([item in steps for item in thing])


def is_set_of(steps, thing):
    """Whether thing is a set of steps."""
    return are_steps(steps, thing) and is_ascending(thing)


def is_line_of(steps, thing):
    """Whether thing is a tuple of all steps, each once."""
    return are_steps(steps, thing) and sorted(thing) == list(steps)


def are_pairs_of(steps, thing):
    """Whether thing is a tuple of pairs of steps."""
    return isinstance(thing, tuple) and all([is_pair(item) and are_steps(steps, item) for item in thing])


def are_deeds(thing):
    """Whether thing is a tuple of pairs of a begin or an end and a string."""
    return isinstance(thing, tuple) and all([_is_deed(item) for item in thing])


def are_sizes(steps, thing):
    """Whether thing is a tuple of numbers from 0, one for each step."""
    if not isinstance(thing, tuple) or len(thing) != len(steps):
        return False
    return all([is_number(item) and item >= 0 for item in thing])


def _is_deed(thing):
    return is_pair(thing) and thing[0] in ("begin", "end") and isinstance(thing[1], str)

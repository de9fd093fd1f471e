"""Sets of values that can meet two by two, that never meet, and that all live at one moment."""

from seatsahead.meets import all_apart, all_dead, deeds_to, leads_to
from seatsahead.programs import all_ends, check_names, readers
from seatsahead.things import is_ascending, is_set_of


def is_lot(program, some):
    """Whether each two of these values can meet."""
    check_names(program.steps, some)
    apart = all_apart(program)
    return not any([(one, other) in apart for one in some for other in some])


def is_row(program, some):
    """Whether of each two of these values one is dead ahead of the other one."""
    check_names(program.steps, some)
    apart = all_apart(program)
    return all([(one, other) in apart for one in some for other in some if one != other])


def great_lots(program):
    """The ascending list of the LOTS that lie in no other one."""
    return _great(program, all_lots(program))


def great_rows(program):
    """The ascending list of the ROWS that lie in no other one."""
    return _great(program, all_rows(program))


def is_moment_set(program, some):
    """Whether all these values live at one moment of some RUN."""
    check_names(program.steps, some)
    ends = all_ends(program)
    return all([_can_live_on(program, ends, some, value) for value in some])


def great_moments(program):
    """The ascending list of the MOMENT SETS that lie in no other one."""
    return _great(program, all_moments(program))


def most_at_once(program):
    """The most values of a MOMENT SET."""
    return max([len(some) for some in all_moments(program)])


def widest_lot(program):
    """The most values of a LOT."""
    return max([len(some) for some in all_lots(program)])


def run_to_moment(program, some):
    """A beginning behind which all these values live; None if there is none."""
    return deeds_to(program, some) if is_moment_set(program, some) else None


def is_run_to_moment(program, some, thing):
    """Whether thing is a beginning behind which all these values live."""
    check_names(program.steps, some)
    return leads_to(program, some, thing)


def all_lots(program):
    """All LOTS."""
    apart = all_apart(program)

    def joins(some, value):
        return not any([(one, value) in apart for one in some])

    return _grown(program, joins)


def all_rows(program):
    """All ROWS."""
    apart = all_apart(program)

    def joins(some, value):
        return all([(one, value) in apart for one in some])

    return _grown(program, joins)


def all_moments(program):
    """All MOMENT SETS."""
    ends = {pair: True for pair in all_ends(program)}

    def joins(some, value):
        return all([_can_live_on(program, ends, (*some, value), one) for one in (*some, value)])

    return _grown(program, joins)


def is_told_lot(program, thing):
    """Whether thing, which may be any value, is a LOT."""
    return is_set_of(program.steps, thing) and is_lot(program, thing)


def is_told_row(program, thing):
    """Whether thing, which may be any value, is a ROW."""
    return is_set_of(program.steps, thing) and is_row(program, thing)


def least_parting(program, values):
    """These values in as few LOTS as can be: an ascending tuple."""
    dead = all_dead(program)
    parts = []
    rest = sorted(values)
    # Each part takes those that no other one left is dead ahead of: the longest ROW left gets shorter.
    while rest:
        part = tuple([value for value in rest if not any([(one, value) in dead for one in rest])])
        parts.append(part)
        rest = [value for value in rest if value not in part]
    return tuple(sorted(parts))


def is_parting(program, values, number, thing):
    """Whether thing, which may be any value, are these values in at most so many LOTS, ascending, none of them ()."""
    if not isinstance(thing, tuple) or not all([is_set_of(program.steps, part) for part in thing]):
        return False
    if sorted([value for part in thing for value in part]) != sorted(values) or () in thing:
        return False
    return len(thing) <= number and is_ascending(thing) and all([is_lot(program, part) for part in thing])


def _grown(program, joins):
    """All sets that grow from () by values that join; what lies in one of these must be one, too."""
    found = [()]
    for value in program.steps:
        found = found + [(*some, value) for some in found if joins(some, value)]
    return found


def _great(program, sets):
    """Those of the sets that lie in no other one, ascending."""
    known = {some: True for some in sets}

    def is_great(some):
        others = [value for value in program.steps if value not in some]
        return not any([tuple(sorted((*some, value))) in known for value in others])

    return sorted([some for some in sets if is_great(some)])


def _can_live_on(program, ends, some, value):
    """Whether this value can live when all steps of some have begun."""
    if value in program.kept or not _must_have_ended(ends, some, value):
        return True
    return any([not _must_have_ended(ends, some, reader) for reader in readers(program, value)])


def _must_have_ended(ends, some, step):
    return any([(step, other) in ends for other in some])

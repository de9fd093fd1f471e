"""Places that are fixed ahead for values of one size each: as few as can be."""

from seatsahead.lots import great_lots, is_told_lot, is_told_row
from seatsahead.meets import all_dead, all_meets
from seatsahead.things import are_sizes, is_ascending


def fewest_places(program):
    """How many places there must be at the least."""
    return len(placed(program))


def placed(program):
    """The values parted into as few ROWS as can be."""
    heirs = _heirs(program)
    taken = list(heirs.values())
    rows = []
    for value in program.steps:
        if value not in taken:
            row = [value]
            while row[-1] in heirs:
                row.append(heirs[row[-1]])
            rows.append(tuple(sorted(row)))
    return tuple(sorted(rows))


def is_placed(program, thing):
    """Whether thing are the values parted into as few ROWS as can be."""
    if not isinstance(thing, tuple) or len(thing) != fewest_places(program):
        return False
    if not all([is_told_row(program, row) for row in thing]):
        return False
    return is_ascending(thing) and sorted([value for row in thing for value in row]) == list(program.steps)


def places_by_rows(program):
    """For each value the number of its place, in the order of the STEPS, with as few places as can be."""
    places = {value: place for place, row in enumerate(placed(program)) for value in row}
    return tuple([places[value] for value in program.steps])


def are_places(program, thing):
    """Whether thing are numbers of places, one for each value, unlike ones for values that can meet."""
    if not are_sizes(program.steps, thing):
        return False
    places = dict(zip(program.steps, thing))
    return all([places[one] != places[other] for one, other in all_meets(program)])


def lot_against(program, number):
    """A LOT of one value more than this number; None if there is none, or if the number is below 0."""
    lot = max(great_lots(program), key=len)
    return lot[:number + 1] if 0 <= number < len(lot) else None


def is_lot_against(program, number, thing):
    """Whether thing is such a LOT."""
    return number >= 0 and is_told_lot(program, thing) and len(thing) == number + 1


def in_each_lot(program):
    """The set of the values that are in each LOT of the most values."""
    lots = great_lots(program)
    most = max([len(lot) for lot in lots])
    widest = [lot for lot in lots if len(lot) == most]
    return tuple([value for value in program.steps if all([value in lot for lot in widest])])


def _heirs(program):
    """As many values as can be, each with an heir: one that it is dead ahead of and that gets its place."""
    dead = all_dead(program)
    givers = {}
    for value in program.steps:
        _find_heir(dead, givers, value, {})
    return {givers[heir]: heir for heir in givers}


def _find_heir(dead, givers, value, seen):
    """Finds an heir for this value, others getting other ones if need be; whether there is one."""
    for heir in [other for one, other in dead if one == value]:
        if heir not in seen:
            seen[heir] = True
            if heir not in givers or _find_heir(dead, givers, givers[heir], seen):
                givers[heir] = value
                return True
    return False

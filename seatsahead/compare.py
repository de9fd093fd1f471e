"""Two Programs of the same steps, compared whatever the sizes, with papers both ways."""

from seatsahead.errors import OtherSteps
from seatsahead.lots import (
    all_lots, all_moments, all_rows, great_lots, great_moments, is_moment_set, is_parting, is_told_lot, is_told_row,
    least_parting)
from seatsahead.meets import all_meets
from seatsahead.sizes import is_sizes, lots_of
from seatsahead.things import is_pair, is_set_of


def lot_row(one, other):
    """As many values as can be that are a LOT of one and a ROW of other."""
    _check_steps(one, other)
    rows = {some: True for some in all_rows(other)}
    return max([some for some in all_lots(one) if some in rows], key=len)


def is_lot_row(one, other, thing):
    """Whether thing is such a set of so many values."""
    _check_steps(one, other)
    return is_told_lot(one, thing) and is_told_row(other, thing) and len(thing) == lot_factor(one, other)


def lot_factor(one, other):
    """The least number such that LOTS of one is at most so many times LOTS of other, whatever the SIZES."""
    return len(lot_row(one, other))


def lot_row_of(one, other, number):
    """One value more than this number that are a LOT of one and a ROW of other; None if there are none."""
    # What lies in a LOT is one, and what lies in a ROW is one.
    row = lot_row(one, other)
    return row[:number + 1] if number < len(row) else None


def lot_partings(one, other, number):
    """The great LOTS of one, each parted into at most so many LOTS of other; None if one can't be."""
    _check_steps(one, other)
    pairs = tuple([(lot, least_parting(other, lot)) for lot in great_lots(one)])
    return pairs if all([len(parts) <= number for _, parts in pairs]) else None


def is_lot_partings(one, other, number, thing):
    """Whether thing are the great LOTS of one, each parted into at most so many LOTS of other."""
    _check_steps(one, other)
    if not isinstance(thing, tuple) or not all([is_pair(item) for item in thing]):
        return False
    if [lot for lot, _ in thing] != great_lots(one):
        return False
    return all([is_parting(other, lot, number, parts) for lot, parts in thing])


def lot_sizes(one, other, number):
    """SIZES by which LOTS of one is more than so many times LOTS of other; None if there are none."""
    row = lot_row(one, other)
    # One unit for each value of the row: all of them meet in one, and no two of them in other.
    return tuple([1 if value in row else 0 for value in one.steps]) if number < len(row) else None


def is_lot_sizes(one, other, number, thing):
    """Whether thing are such SIZES."""
    _check_steps(one, other)
    return is_sizes(one, thing) and lots_of(one, thing) > number * lots_of(other, thing)


def moment_against(one, other):
    """A MOMENT SET of one that is none of other; None if there is none."""
    _check_steps(one, other)
    moments = {some: True for some in all_moments(other)}
    # What lies in a MOMENT SET is one, so it is enough to look at the great ones.
    return min([some for some in great_moments(one) if some not in moments], default=None)


def is_moment_against(one, other, thing):
    """Whether thing is such a set."""
    _check_steps(one, other)
    return is_set_of(one.steps, thing) and is_moment_set(one, thing) and not is_moment_set(other, thing)


def never_worse(one, other):
    """Whether WORST of one is at most that of other, whatever the SIZES."""
    return moment_against(one, other) is None


def alike_worst(one, other):
    """Whether WORST of both is as great, whatever the SIZES."""
    return never_worse(one, other) and never_worse(other, one)


def same_meets(one, other):
    """Whether the same values can meet in both."""
    _check_steps(one, other)
    return all_meets(one) == all_meets(other)


def _check_steps(one, other):
    if one.steps != other.steps:
        raise OtherSteps()

"""How much room a layout wastes, whatever the sizes, and what shows it."""

from math import gcd

from seatsahead.layouts import all_layouts, checked_layout, great_piles, is_pile, need
from seatsahead.lots import is_parting, is_told_row, least_parting
from seatsahead.meets import all_apart
from seatsahead.programs import chain_to, followers, in_order, reached
from seatsahead.sizes import is_sizes, lots_of
from seatsahead.things import is_pair


def waste(program, layout):
    """The least number such that the NEED is at most so many times LOTS, whatever the SIZES."""
    return len(_longest_row(program, checked_layout(program, layout)))


def no_waste(program, layout):
    """Whether the NEED is LOTS, whatever the SIZES."""
    return waste(program, layout) <= 1


def step_over(program, layout):
    """The least triple of values, each below the next one, of which the first and the last can't meet."""
    pairs = checked_layout(program, layout)
    apart = all_apart(program)
    triples = [(low, high, top) for low, high in pairs for under, top in pairs if under == high]
    return min([triple for triple in triples if (triple[0], triple[2]) in apart], default=None)


def row_in_pile(program, layout, number):
    """A ROW of one value more than this number and a PILE that has all of it; None if there is none."""
    pairs = checked_layout(program, layout)
    row = _longest_row(program, pairs)[:number + 1]
    if len(row) <= number:
        return None
    return tuple(sorted(row)), _pile_through(program, pairs, row)


def is_row_in_pile(program, layout, number, thing):
    """Whether thing is such a pair of a ROW and a PILE."""
    pairs = checked_layout(program, layout)
    if not is_pair(thing) or not is_told_row(program, thing[0]) or not is_pile(program, pairs, thing[1]):
        return False
    row, pile = thing
    return len(row) == number + 1 and all([value in pile for value in row])


def partings(program, layout, number):
    """All great PILES, each parted into at most so many LOTS; None if one can't be."""
    pairs = tuple([(pile, least_parting(program, pile)) for pile in great_piles(program, layout)])
    return pairs if all([len(parting) <= number for _, parting in pairs]) else None


def is_partings(program, layout, number, thing):
    """Whether thing are the great PILES, each parted into at most so many LOTS."""
    piles = great_piles(program, layout)
    if not isinstance(thing, tuple) or not all([is_pair(item) for item in thing]):
        return False
    if [pile for pile, _ in thing] != piles:
        return False
    return all([is_parting(program, pile, number, parting) for pile, parting in thing])


def sizes_against(program, layout, number):
    """SIZES by which the NEED is more than so many times LOTS; None if there are none."""
    row = _longest_row(program, checked_layout(program, layout))
    # One unit for each value of the ROW: no two of them meet, and one PILE has all of them.
    return tuple([1 if value in row else 0 for value in program.steps]) if len(row) > number else None


def is_sizes_against(program, layout, number, thing):
    """Whether thing are such SIZES."""
    pairs = checked_layout(program, layout)
    return is_sizes(program, thing) and need(program, pairs, thing) > number * lots_of(program, thing)


def as_much(program, layout, sizes):
    """The FRACTION of the NEED to LOTS; None if all SIZES are 0."""
    top = need(program, layout, sizes)
    bottom = lots_of(program, sizes)
    if bottom == 0:
        return None
    common = gcd(top, bottom)
    return top // common, bottom // common


def best_layout(program):
    """A LAYOUT of as little waste as can be."""
    return min([(waste(program, layout), layout) for layout in all_layouts(program)])[1]


def least_waste(program):
    """The waste of a LAYOUT of as little waste as can be."""
    return waste(program, best_layout(program))


def _longest_row(program, pairs):
    """As many values as can be that are a ROW and that one PILE has, in the order of the PILE."""
    above = followers(program.steps, pairs)
    over = {value: reached(above, value) for value in program.steps}
    apart = all_apart(program)
    rows = [()]
    for value in in_order(program.steps, pairs):
        under = [one for one in program.steps if value in over[one] and (one, value) in apart]
        rows = rows + [(*row, value) for row in rows if all([one in under for one in row])]
    return max(rows, key=len)


def _pile_through(program, pairs, row):
    """A PILE that has these values, from each of which a chain of pairs leads to the next one."""
    above = followers(program.steps, pairs)
    pile = list(row[:1])
    for low, high in zip(row, row[1:]):
        pile.extend(chain_to(above, low, high)[1:])
    return tuple(pile)

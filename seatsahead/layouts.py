"""Layouts: of each two values that can meet, which one lies below; and the places by sizes."""

from seatsahead.errors import BadLayout
from seatsahead.lots import all_rows
from seatsahead.meets import all_meets
from seatsahead.programs import followers, in_order, reached
from seatsahead.sizes import check_count
from seatsahead.things import are_pairs_of, are_steps, is_ascending


def is_layout(program, thing):
    """Whether thing is a LAYOUT of the Program."""
    if not are_pairs_of(program.steps, thing) or not is_ascending(thing):
        return False
    return _first_bad_pair(program, thing) is None


def a_layout(program):
    """A LAYOUT of the Program."""
    # The lesser NAME lies below, so no round can come about.
    return all_meets(program)


def how_many_layouts(program):
    """How many LAYOUTS there are."""
    rows = _signed_rows(program)
    counts = [1]
    # The values with none below them are a ROW. A LAYOUT of the others under which a ROW is put
    # is one of all; each comes up once for every part of what is lowest in it, and the signs of
    # these parts leave just one over. Sets of values are numbers here, a bit for each value.
    for values in range(1, 1 << len(program)):
        counts.append(sum([sign * counts[values - row] for row, sign in rows if row & values == row]))
    return counts[-1]


def all_layouts(program):
    """The ascending list of all LAYOUTS."""
    layouts = [()]
    for one, other in all_meets(program):
        layouts = [
            (*pairs, pair)
            for pairs in layouts
            for pair in ((one, other), (other, one))
            if not _closes_round(program, pairs, pair)
        ]
    return sorted([tuple(sorted(pairs)) for pairs in layouts])


def places_by(program, layout, sizes):
    """The places where the values begin, in the order of the STEPS."""
    ends = _ends_and_piles(program, layout, sizes)
    return tuple([ends[value][0] - size for value, size in zip(program.steps, sizes)])


def need(program, layout, sizes):
    """Where the highest value ends."""
    return _highest(program, layout, sizes)[0]


def highest_pile(program, layout, sizes):
    """A PILE whose SIZES come to the NEED."""
    return _highest(program, layout, sizes)[1]


def is_highest_pile(program, layout, sizes, thing):
    """Whether thing is a PILE whose SIZES come to the NEED."""
    height = need(program, layout, sizes)
    if not is_pile(program, layout, thing):
        return False
    return sum([size for value, size in zip(program.steps, sizes) if value in thing]) == height


def great_piles(program, layout):
    """The ascending list of the PILES all of whose values no other one has, with more values."""
    pairs = checked_layout(program, layout)
    piles = {_number_of(program, pile): pile for pile in _all_piles(program, pairs)}
    return sorted([
        piles[some] for some in piles
        if not any([some & other == some and some != other for other in piles])
    ])


def clashes(program, sizes, places):
    """The set of the ascending pairs of values that can meet and have a unit in common."""
    check_count(program, sizes)
    check_count(program, places)
    begins = dict(zip(program.steps, places))
    ends = {value: begins[value] + size for value, size in zip(program.steps, sizes)}
    return tuple([
        (one, other) for one, other in all_meets(program)
        if max(begins[one], begins[other]) < min(ends[one], ends[other])
    ])


def layout_of(program, sizes, places):
    """The LAYOUT by which the value at the lesser place lies below; None if values clash."""
    if clashes(program, sizes, places) != ():
        return None
    begins = {value: (place, value) for value, place in zip(program.steps, places)}
    pairs = all_meets(program)
    return tuple(sorted([(one, other) if begins[one] < begins[other] else (other, one) for one, other in pairs]))


def checked_layout(program, layout):
    """The LAYOUT as a tuple of tuples; raises BadLayout if it is none."""
    place = _first_bad_pair(program, layout)
    if place is not None:
        raise BadLayout(place)
    return tuple([(low, high) for low, high in layout])


def is_pile(program, layout, thing):
    """Whether thing, which may be any value, is a PILE of this LAYOUT."""
    if not are_steps(program.steps, thing):
        return False
    pairs = checked_layout(program, layout)
    return all([pair in pairs for pair in zip(thing, thing[1:])])


def _first_bad_pair(program, layout):
    """The first pair that can't stand behind those ahead of it, their number if some are missing, or None."""
    meets = all_meets(program)
    told = []
    for place, (low, high) in enumerate(layout):
        pair = (min(low, high), max(low, high))
        # A pair that is told again, either way, is not left over.
        if pair not in meets or pair in told or _closes_round(program, layout[:place], (low, high)):
            return place
        told.append(pair)
    return None if len(told) == len(meets) else len(told)


def _closes_round(program, pairs, pair):
    low, high = pair
    return low in reached(followers(program.steps, pairs), high)


def _signed_rows(program):
    """The ROWS but () as numbers, each with 1 if it has an odd number of values, else with -1."""
    return [(_number_of(program, row), 1 if len(row) % 2 == 1 else -1) for row in all_rows(program) if row != ()]


def _number_of(program, values):
    """A number with a bit for each of these values."""
    return sum([1 << place for place, value in enumerate(program.steps) if value in values])


def _all_piles(program, pairs):
    """All PILES of this LAYOUT."""
    piles = [()]
    for value in in_order(program.steps, pairs):
        piles = piles + [(*pile, value) for pile in piles if pile == () or (pile[-1], value) in pairs]
    return piles


def _ends_and_piles(program, layout, sizes):
    """For each value where it ends, and a PILE with it on top whose SIZES come to this."""
    pairs = checked_layout(program, layout)
    check_count(program, sizes)
    size = dict(zip(program.steps, sizes))
    found = {}
    for value in in_order(program.steps, pairs):
        place, pile = max([found[low] for low, high in pairs if high == value], default=(0, ()))
        found[value] = (place + size[value], (*pile, value))
    return found


def _highest(program, layout, sizes):
    """The NEED, and a PILE whose SIZES come to it."""
    return max(list(_ends_and_piles(program, layout, sizes).values()), default=(0, ()))

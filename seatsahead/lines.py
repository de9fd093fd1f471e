"""Layouts without waste, and the two lines of all values that belong to each of them."""

from seatsahead.layouts import all_layouts, checked_layout
from seatsahead.meets import all_dead, all_meets
from seatsahead.programs import chain_to, check_names, in_order, reached
from seatsahead.things import are_pairs_of, is_line_of, is_pair
from seatsahead.waste import step_over


def two_lines(program):
    """LINES of the Program; None if there are none."""
    layout = _clean_layout(program)
    return None if layout is None else lines_of_layout(program, layout)


def is_two_lines(program, thing):
    """Whether thing are LINES of the Program."""
    if not is_pair(thing) or not all([is_line_of(program.steps, line) for line in thing]):
        return False
    first, second = thing
    return _pairs_ahead(program, first, second) == all_dead(program)


def layout_of_lines(program, lines):
    """The LAYOUT of these LINES: who stands ahead in the first one and behind in the second one is below."""
    first, second = lines
    return _pairs_ahead(program, first, second[::-1])


def lines_of_layout(program, layout):
    """The LINES of this LAYOUT; None if it is not clean."""
    pairs = checked_layout(program, layout)
    if not _is_clean(program, pairs):
        return None
    dead = all_dead(program)
    turned = tuple([_turned(pair) for pair in pairs])
    return tuple(in_order(program.steps, dead + pairs)), tuple(in_order(program.steps, dead + turned))


def forced(program, one, other):
    """The set of the pairs to which a chain of forcing leads from (one, other), this one, too."""
    check_names(program.steps, (one, other))
    meets = _both_ways(all_meets(program))
    if (one, other) not in meets:
        return ()
    return tuple(sorted(reached(_forcing(meets), (one, other))))


def barring(program):
    """A chain of forcing from a pair to the same one turned about; None if there is none."""
    forcing = _forcing(_both_ways(all_meets(program)))
    for pair in forcing:
        chain = chain_to(forcing, pair, _turned(pair))
        if chain is not None:
            return chain
    return None


def is_barring(program, thing):
    """Whether thing is such a chain."""
    if not are_pairs_of(program.steps, thing) or len(thing) == 0:
        return False
    forcing = _forcing(_both_ways(all_meets(program)))
    if thing[0] not in forcing or thing[-1] != _turned(thing[0]):
        return False
    return all([pair in forcing and after in forcing[pair] for pair, after in zip(thing, thing[1:])])


def all_clean(program):
    """The ascending list of all clean LAYOUTS."""
    return [layout for layout in all_layouts(program) if _is_clean(program, layout)]


def _is_clean(program, layout):
    return step_over(program, layout) is None


def _turned(pair):
    return pair[1], pair[0]


def _both_ways(pairs):
    return [*pairs, *[_turned(pair) for pair in pairs]]


def _forcing(meets):
    """For each of these pairs, told both ways, those of them that it forces."""
    known = {pair: True for pair in meets}
    return {
        (one, other): [
            (low, high) for low, high in meets
            if (high == other and low != one and (low, one) not in known)
            or (low == one and high != other and (high, other) not in known)
        ]
        for one, other in meets
    }


def _clean_layout(program):
    """A clean LAYOUT; None if there is none."""
    layout = []
    left = _both_ways(all_meets(program))
    # What a pair forces among the pairs that are left goes with it. That this never has to be
    # taken back is Golumbic's theorem on graphs whose edges can be directed transitively.
    while left:
        group = reached(_forcing(left), left[0])
        if _turned(left[0]) in group:
            return None
        layout.extend(list(group))
        left = [pair for pair in left if pair not in group and _turned(pair) not in group]
    return tuple(sorted(layout))


def _pairs_ahead(program, first, second):
    """The ascending pairs (one, other) of which one stands ahead of other in both of these lines."""
    steps = program.steps
    return tuple([
        (one, other) for one in steps for other in steps
        if first.index(one) < first.index(other) and second.index(one) < second.index(other)
    ])

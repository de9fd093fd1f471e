"""Told orders: the steps run one by one, each ended before the next one begins."""

from seatsahead.compare import is_lot_row, lot_factor, lot_row
from seatsahead.errors import NoPlace
from seatsahead.meets import all_meets
from seatsahead.programs import Program, readers
from seatsahead.sizes import check_count, sum_of
from seatsahead.things import is_line_of


def is_order(program, thing):
    """Whether thing is an ORDER of the Program."""
    if not is_line_of(program.steps, thing):
        return False
    place = _places(thing)
    return all([place[one] < place[other] for one, other in program.reads + program.waits])


def lives(program, order):
    """The first and the last place at which each value lives, in the order of the STEPS."""
    place = _places(order)
    last = {value: max([place[step] for step in (value, *readers(program, value))]) for value in program.steps}
    for value in program.kept:
        last[value] = len(order) - 1
    return tuple([(place[value], last[value]) for value in program.steps])


def alive_at(program, order, place):
    """The set of the values that live at this place."""
    if not 0 <= place < len(order):
        raise NoPlace(place)
    return tuple([
        value for value, (first, last) in zip(program.steps, lives(program, order))
        if first <= place <= last
    ])


def together(program, order):
    """The set of the pairs of values, each ascending, that live at one place."""
    spans = list(zip(program.steps, lives(program, order)))
    return tuple([
        (one, other)
        for one, (one_first, one_last) in spans
        for other, (other_first, other_last) in spans
        if one < other and max(one_first, other_first) <= min(one_last, other_last)
    ])


def straight_program(program, order):
    """The Program in which each step of the ORDER waits for the one ahead of it, too."""
    waits = [*program.waits, *list(zip(order, order[1:]))]
    return Program(program.steps, program.reads, waits, program.kept)


def peak_of(program, order, sizes):
    """The greatest sum of the values that live at one place."""
    check_count(program, sizes)
    sums = [sum_of(program, sizes, alive_at(program, order, place)) for place in range(len(order))]
    return max(sums, default=0)


def elder_below(program, order):
    """The LAYOUT in which of two values that can meet the one ahead in the ORDER lies below."""
    place = _places(order)
    return tuple(sorted([
        (one, other) if place[one] < place[other] else (other, one)
        for one, other in all_meets(program)
    ]))


def first_free(program, order, sizes):
    """Where each value is laid if each one, in this ORDER, takes the least place that is free."""
    check_count(program, sizes)
    size = dict(zip(program.steps, sizes))
    near = together(program, order)
    begins = {}
    for value in order:
        spans = [
            (begin, begin + size[other]) for other, begin in begins.items()
            if (min(value, other), max(value, other)) in near
        ]
        begins[value] = _least_free(spans, size[value])
    return tuple([begins[value] for value in program.steps])


def room_of(program, order, sizes):
    """The greatest number that is reached by first_free."""
    begins = first_free(program, order, sizes)
    return max([begin + size for begin, size in zip(begins, sizes)], default=0)


def together_apart(program, one, other):
    """As many values as can be that are together two by two by one and not by other."""
    return lot_row(straight_program(program, one), straight_program(program, other))


def orders_factor(program, one, other):
    """The least number such that the peak by one is at most so many times that by other, whatever the SIZES."""
    return lot_factor(straight_program(program, one), straight_program(program, other))


def is_together_apart(program, one, other, thing):
    """Whether thing is such a set of so many values."""
    return is_lot_row(straight_program(program, one), straight_program(program, other), thing)


def _places(order):
    return {step: place for place, step in enumerate(order)}


def _least_free(spans, size):
    """The least place from which on so many numbers lie in none of these spans."""
    # A value that lies above another one lies best right above it.
    begins = [0, *[end for _, end in spans]]
    return min([
        begin for begin in begins
        if all([max(begin, low) >= min(begin + size, high) for low, high in spans])
    ])

"""How great the values are together: at the moments of runs, and as LOTS."""

from seatsahead.errors import BadDeed, OtherSteps
from seatsahead.lots import all_lots, all_moments, is_told_lot
from seatsahead.meets import deeds_to
from seatsahead.programs import check_names
from seatsahead.runs import ENDED, NOT_BEGUN, deeds_from, is_beginning, live, living, living_by_moment, run_of
from seatsahead.things import are_sizes, is_line_of


def is_sizes(program, thing):
    """Whether thing are SIZES for the STEPS."""
    return are_sizes(program.steps, thing)


def sum_of(program, sizes, values):
    """The sum of the SIZES of these values."""
    return sum([size for step, size in zip(program.steps, sizes) if step in values])


def peak(program, run, sizes):
    """The greatest sum of the values that live at one moment of this RUN."""
    return max(_sums_by_moment(program, run, sizes))


def first_peak(program, run, sizes):
    """The number of the first moment of this RUN at which the living values have the greatest sum."""
    sums = _sums_by_moment(program, run, sizes)
    return sums.index(max(sums))


def worst(program, sizes):
    """The greatest PEAK of all RUNS."""
    return _greatest_sum(program, sizes, all_moments(program))


def deeds_to_worst(program, sizes):
    """A beginning behind which the living values have the sum WORST."""
    # Others may live there, too; they add nothing, as no moment has a greater sum.
    return deeds_to(program, _heaviest(program, sizes, all_moments(program)))


def is_deeds_to_worst(program, sizes, thing):
    """Whether thing is such a beginning."""
    return is_beginning(program, thing) and sum_of(program, sizes, live(program, thing)) == worst(program, sizes)


def spare(program, sizes, value):
    """By how much the size of this value can be greater such that WORST stays."""
    check_names(program.steps, (value,))
    moments = all_moments(program)
    with_value = [some for some in moments if value in some]
    return _greatest_sum(program, sizes, moments) - _greatest_sum(program, sizes, with_value)


def tight(program, sizes):
    """The set of the values that have no spare."""
    moments = all_moments(program)
    greatest = _greatest_sum(program, sizes, moments)
    full = [some for some in moments if sum_of(program, sizes, some) == greatest]
    return tuple([value for value in program.steps if any([value in some for some in full])])


def lots_of(program, sizes):
    """The greatest sum of a LOT."""
    return _greatest_sum(program, sizes, all_lots(program))


def heaviest_lot(program, sizes):
    """A LOT with the greatest sum."""
    return _heaviest(program, sizes, all_lots(program))


def is_heaviest_lot(program, sizes, thing):
    """Whether thing is a LOT with the greatest sum."""
    return is_told_lot(program, thing) and sum_of(program, sizes, thing) == lots_of(program, sizes)


def least_peak(program, sizes):
    """The least PEAK of all RUNS."""
    return _best_way(program, sizes, (), {})[0]


def best_order(program, sizes):
    """An order of all STEPS, one by one, with the least PEAK of all RUNS."""
    known = {}
    order = []
    while len(order) < len(program):
        order.append(_best_way(program, sizes, tuple(sorted(order)), known)[1])
    return tuple(order)


def is_best_order(program, sizes, thing):
    """Whether thing is such an order."""
    if not is_line_of(program.steps, thing):
        return False
    try:
        run = run_of(program, thing)
    except BadDeed:
        return False
    return peak(program, run, sizes) == least_peak(program, sizes)


def check_count(program, numbers):
    """Raises OtherSteps if there are not as many numbers as STEPS."""
    if len(numbers) != len(program):
        raise OtherSteps()


def _sums_by_moment(program, run, sizes):
    return [sum_of(program, sizes, values) for values in living_by_moment(program, run)]


def _greatest_sum(program, sizes, sets):
    return max([sum_of(program, sizes, some) for some in sets])


def _heaviest(program, sizes, sets):
    return max(sets, key=lambda some: sum_of(program, sizes, some))


def _best_way(program, sizes, ended, known):
    """The least PEAK from where these have ended, one by one, and a step to take then, "" at the end."""
    if ended not in known:
        ways = [
            (max(_sum_at_work(program, sizes, ended, step),
                 _best_way(program, sizes, tuple(sorted((*ended, step))), known)[0]), step)
            for step in _steps_from(program, ended)
        ]
        known[ended] = min(ways, default=(0, ""))
    return known[ended]


def _steps_from(program, ended):
    """The steps that can begin when these have ended and no other one has begun."""
    return [step for _, step in deeds_from(program, _stages(program, ended))]


def _sum_at_work(program, sizes, ended, step):
    """The sum of the living values when these have ended and this step is at work."""
    held = living(program, _stages(program, ended))
    return sum_of(program, sizes, (*held, step))


def _stages(program, ended):
    return {step: ENDED if step in ended else NOT_BEGUN for step in program.steps}

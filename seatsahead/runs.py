"""Runs: the deeds of all steps, one behind another, and which values live between them."""

from seatsahead.errors import BadDeed, NoNumber, NoPlace
from seatsahead.programs import check_names, readers
from seatsahead.things import are_deeds

# Each deed of a step leads from one of its stages to the next one; between these two it is at work.
NOT_BEGUN = 0
ENDED = 2
STAGE_AHEAD = {"begin": 0, "end": 1}


def is_beginning(program, thing):
    """Whether a RUN can begin with this."""
    if not are_deeds(thing):
        return False
    try:
        stages_behind(program, thing)
    except BadDeed:
        return False
    return True


def is_run(program, thing):
    """Whether this is a whole RUN."""
    # A beginning has each deed at most once, so one of this length has them all.
    return is_beginning(program, thing) and len(thing) == 2 * len(program)


def next_deeds(program, beginning):
    """The set of the deeds that are possible behind this beginning."""
    return deeds_from(program, stages_behind(program, beginning))


def live(program, beginning):
    """The set of the values that live behind this beginning."""
    return living(program, stages_behind(program, beginning))


def run_of(program, order):
    """The RUN in which the steps begin and end one by one in this order."""
    run = tuple([(deed, step) for step in order for deed in ("begin", "end")])
    stages_behind(program, run)
    return run


def live_at(program, run, number):
    """The set of the values that live at the moment with this number."""
    if not 0 <= number <= len(run):
        raise NoPlace(number)
    return live(program, run[:number])


def moments_of(program, run, value):
    """The first and the last moment at which this value lives."""
    check_names(program.steps, (value,))
    moments = [number for number, values in enumerate(living_by_moment(program, run)) if value in values]
    return moments[0], moments[-1]


def most_live(program, run):
    """The most values that live at one moment."""
    return max([len(values) for values in living_by_moment(program, run)])


def how_many_runs(program):
    """How many RUNS there are."""
    return _ways_on(program, stages_behind(program, ()), {})


def nth_run(program, number):
    """The RUN with this number, all of them being numbered as they compare."""
    known = {}
    stages = stages_behind(program, ())
    if not 0 <= number < _ways_on(program, stages, known):
        raise NoNumber(number)
    run = []
    left = number
    for _ in range(2 * len(program)):
        for deed, ways in _choices(program, stages, known):
            if left < ways:
                break
            left -= ways
        run.append(deed)
        stages = _stages_after(stages, deed)
    return tuple(run)


def number_of_run(program, run):
    """The number of this RUN; None if it is none."""
    deeds = tuple([(deed, step) for deed, step in run])
    if not is_run(program, deeds):
        return None
    known = {}
    number = 0
    stages = stages_behind(program, ())
    for deed in deeds:
        number += sum([ways for other, ways in _choices(program, stages, known) if other < deed])
        stages = _stages_after(stages, deed)
    return number


def stages_behind(program, beginning):
    """For each step its stage behind these deeds; raises BadDeed."""
    needed = _needed(program)
    stages = {step: NOT_BEGUN for step in program.steps}
    for place, (deed, step) in enumerate(beginning):
        if not _is_possible(needed, stages, deed, step):
            raise BadDeed(place)
        stages[step] += 1
    return stages


def deeds_from(program, stages):
    """The set of the deeds that are possible at these stages."""
    needed = _needed(program)
    deeds = [(deed, step) for deed in ("begin", "end") for step in program.steps]
    return tuple([(deed, step) for deed, step in deeds if _is_possible(needed, stages, deed, step)])


def living(program, stages):
    """The set of the values that live at these stages."""
    return tuple([value for value in program.steps if _lives(program, stages, value)])


def living_by_moment(program, run):
    """The sets of the values that live at the moments of this RUN, from moment 0 on."""
    return [live(program, run[:number]) for number in range(len(run) + 1)]


def _needed(program):
    """For each step those that must have ended ahead of its begin."""
    pairs = program.reads + program.waits
    return {step: [one for one, other in pairs if other == step] for step in program.steps}


def _is_possible(needed, stages, deed, step):
    return (
        step in stages
        and stages[step] == STAGE_AHEAD.get(deed)
        and all([stages[other] == ENDED for other in needed[step]])
    )


def _lives(program, stages, value):
    if stages[value] == NOT_BEGUN or value in program.kept:
        return stages[value] != NOT_BEGUN
    return any([stages[step] != ENDED for step in (value, *readers(program, value))])


def _stages_after(stages, deed):
    return {step: stages[step] + 1 if step == deed[1] else stages[step] for step in stages}


def _ways_on(program, stages, known):
    """In how many ways a RUN goes on from these stages; known keeps what is found."""
    key = tuple(stages.values())
    if key not in known:
        choices = _choices(program, stages, known)
        # Where no deed is left the RUN is over: there is one way, to do nothing.
        known[key] = sum([ways for _, ways in choices]) if choices else 1
    return known[key]


def _choices(program, stages, known):
    """The possible deeds, ascending, each with the number of the ways behind it."""
    deeds = deeds_from(program, stages)
    return [(deed, _ways_on(program, _stages_after(stages, deed), known)) for deed in deeds]

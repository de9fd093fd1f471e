"""Which values can live at one moment of some run, and what shows it."""

from seatsahead.programs import all_ends, chain_to, check_names, followers, in_order, readers
from seatsahead.runs import is_beginning, live


def dead_ahead(program, one, other):
    """Whether the value of one is dead ahead of that of other."""
    check_names(program.steps, (one, other))
    return (one, other) in all_dead(program)


def can_meet(program, one, other):
    """Whether both values can live at one moment of some RUN."""
    check_names(program.steps, (one, other))
    return (one, other) not in all_apart(program)


def all_dead(program):
    """The ascending pairs (one, other) of which the first value is dead ahead of the second one."""
    ends = {pair: True for pair in all_ends(program)}
    found = []
    for one in program.steps:
        users = (one, *readers(program, one))
        if one not in program.kept:
            found += [(one, other) for other in program.steps if all([(user, other) in ends for user in users])]
    return tuple(found)


def all_meets(program):
    """The ascending pairs of unlike values, each ascending, that can meet."""
    apart = all_apart(program)
    steps = program.steps
    return tuple([(one, other) for one in steps for other in steps if one < other and (one, other) not in apart])


def chains_for(program, one, other):
    """Chains to other from one and from all that read it; None if one is not dead ahead of other."""
    if not dead_ahead(program, one, other):
        return None
    follow = followers(program.steps, program.reads + program.waits)
    return tuple([chain_to(follow, start, other) for start in _starts(program, one)])


def is_chains_for(program, one, other, thing):
    """Whether thing are such chains, and one is not kept."""
    check_names(program.steps, (one, other))
    if one in program.kept or not isinstance(thing, tuple):
        return False
    if not all([_is_chain(program, other, chain) for chain in thing]):
        return False
    return [chain[0] for chain in thing] == _starts(program, one)


def run_to_meet(program, one, other):
    """A beginning behind which both values live; None if they never meet."""
    return deeds_to(program, (one, other)) if can_meet(program, one, other) else None


def is_run_to_meet(program, one, other, thing):
    """Whether thing is a beginning behind which both values live."""
    check_names(program.steps, (one, other))
    return leads_to(program, (one, other), thing)


def all_apart(program):
    """The pairs of values that never meet, each told both ways, as a dict of True."""
    dead = all_dead(program)
    return {pair: True for pair in [*dead, *[(other, one) for one, other in dead]]}


def deeds_to(program, some):
    """A beginning behind which all these values live, if there is one."""
    ends = all_ends(program)
    # Only what must have ended ends; so what reads these values ends as late as it can.
    early = [step for step in program.steps if any([(step, other) in ends for other in some])]
    order = [step for step in in_order(program.steps, ends) if step in early]
    deeds = [(deed, step) for step in order for deed in ("begin", "end")]
    late = [step for step in program.steps if step in some and step not in early]
    return tuple(deeds + [("begin", step) for step in late])


def leads_to(program, some, thing):
    """Whether thing is a beginning behind which all these values live."""
    if not is_beginning(program, thing):
        return False
    values = live(program, thing)
    return all([value in values for value in some])


def _starts(program, one):
    return sorted([one, *readers(program, one)])


def _is_chain(program, other, thing):
    if not isinstance(thing, tuple) or len(thing) < 2 or thing[-1] != other:
        return False
    pairs = program.reads + program.waits
    return all([pair in pairs for pair in zip(thing, thing[1:])])

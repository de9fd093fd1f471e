"""Programs gone through in rounds, and how many copies of a value by turns are enough."""

from seatsahead.errors import BadPair
from seatsahead.programs import check_names, readers
from seatsahead.things import is_number

MOST_GAP = 5


class Rounds:
    """A Program gone through again and again, with what steps read and wait for of earlier rounds."""

    def __init__(self, program, reads_on=(), waits_on=()):
        for place, (one, other, gap) in enumerate([*reads_on, *waits_on]):
            if one not in program or other not in program or not _is_gap(gap):
                raise BadPair(place)
        self._program = program
        self._reads_on = _triples_in_order(reads_on)
        self._waits_on = _triples_in_order(waits_on)

    @property
    def program(self):
        """The Program of each round."""
        return self._program

    @property
    def reads_on(self):
        """The set of the triples (one, other, gap) in which other reads what one made so many rounds ahead."""
        return self._reads_on

    @property
    def waits_on(self):
        """The set of the triples (one, other, gap) in which other waits for one so many rounds ahead."""
        return self._waits_on

    def __eq__(self, other):
        return (
            isinstance(other, Rounds)
            and self._program == other._program
            and self._reads_on == other._reads_on
            and self._waits_on == other._waits_on
        )


def chain_behind(rounds, one, other, gap):
    """Whether one is surely ended ahead of other of the round that comes so many rounds later."""
    check_names(rounds.program.steps, (one, other))
    return (other, gap) in _behind(rounds, one, gap)


def meets_behind(rounds, one, other, gap):
    """Whether the value of one and that of other so many rounds later can live at one moment."""
    check_names(rounds.program.steps, (one, other))
    # No chain leads back to an earlier round: the other way about it can only be the same round.
    return gap not in _gaps_over(rounds, one, other, gap) and -gap not in _gaps_over(rounds, other, one, 0)


def are_enough(rounds, value, number):
    """Whether so many copies of this value by turns are enough."""
    return number in enough_to(rounds, value, number)


def enough_to(rounds, value, most):
    """The ascending tuple of all numbers of copies up to this one that are enough."""
    check_names(rounds.program.steps, (value,))
    return tuple(_gaps_over(rounds, value, value, most))


def least_copies(rounds, value, most):
    """The least number of copies up to this one that is enough; None if there is none."""
    return min(enough_to(rounds, value, most), default=None)


def _is_gap(gap):
    return is_number(gap) and 1 <= gap <= MOST_GAP


def _triples_in_order(triples):
    return tuple(sorted({(one, other, gap) for one, other, gap in triples}))


def _behind(rounds, start, most):
    """The pairs (step, gap) of what a chain from start leads to, up to so many rounds later, as a dict of True."""
    same = [(one, other, 0) for one, other in rounds.program.reads + rounds.program.waits]
    leads = {step: [] for step in rounds.program.steps}
    for one, other, gap in [*same, *rounds.reads_on, *rounds.waits_on]:
        leads[one].append((other, gap))
    found = {}
    waiting = [(start, 0)]
    while waiting:
        step, ahead = waiting.pop()
        for other, gap in leads[step]:
            later = (other, ahead + gap)
            if ahead + gap <= most and later not in found:
                found[later] = True
                waiting.append(later)
    return found


def _gaps_over(rounds, one, other, most):
    """The gaps, up to this one, behind which the value of one is dead ahead of that of other."""
    if one in rounds.program.kept:
        return []
    users = [(step, 0) for step in (one, *readers(rounds.program, one))]
    users = users + [(step, gap) for value, step, gap in rounds.reads_on if value == one]
    found = {step: _behind(rounds, step, most) for step in sorted({user for user, _ in users})}
    return [gap for gap in range(most + 1) if all([(other, gap - ahead) in found[step] for step, ahead in users])]

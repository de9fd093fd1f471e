"""Programs: steps, what they read, what they wait for, and what is kept."""

from seatsahead.errors import BadPair, BadText, NoStep
from seatsahead.texts import pairs_from, pairs_text, steps_from, steps_text

PARTS = 4


class Program:
    """Steps that read values of one another and wait for one another."""

    def __init__(self, steps, reads=(), waits=(), kept=()):
        place = _first_bad_pair(steps, [*reads, *waits])
        if place is not None:
            raise BadPair(place)
        check_names(steps, kept)
        self._steps = tuple(steps)
        self._reads = _pairs_in_order(reads)
        self._waits = _pairs_in_order(waits)
        self._kept = tuple(sorted(set(kept)))

    @staticmethod
    def of(text):
        """The Program with this text."""
        parts = text.split(" | ")
        told = []
        for piece, part in enumerate(parts[:PARTS]):
            read_part = steps_from if piece in (0, 3) else pairs_from
            # A part is right if the parts up to it make a Program.
            try:
                told.append(read_part(part))
                Program(*told)
            except (BadText, BadPair, NoStep):
                raise BadText(piece) from None
        if len(parts) != PARTS:
            raise BadText(min(len(parts), PARTS))
        return Program(*told)

    @property
    def steps(self):
        """The set of the steps."""
        return self._steps

    @property
    def reads(self):
        """The ascending pairs (one, other) of which other reads the value of one."""
        return self._reads

    @property
    def waits(self):
        """The ascending pairs (one, other) of which other waits for one."""
        return self._waits

    @property
    def kept(self):
        """The set of the values that live on to the end."""
        return self._kept

    @property
    def text(self):
        """The text from which Program.of makes an equal Program."""
        return " | ".join([
            steps_text(self._steps),
            pairs_text(self._reads),
            pairs_text(self._waits),
            steps_text(self._kept),
        ])

    def __len__(self):
        return len(self._steps)

    def __contains__(self, name):
        return name in self._steps

    def __eq__(self, other):
        return (
            isinstance(other, Program)
            and self._steps == other._steps
            and self._reads == other._reads
            and self._waits == other._waits
            and self._kept == other._kept
        )


def all_ends(program):
    """The ascending pairs (one, other) of which one has surely ended ahead of other."""
    follow = followers(program.steps, program.reads + program.waits)
    return tuple(sorted([
        (one, other)
        for one in program.steps
        for other in reached(follow, one)
        if one != other
    ]))


def surely_ended(program, one, other):
    """Whether one has surely ended ahead of other."""
    check_names(program.steps, (one, other))
    follow = followers(program.steps, program.reads + program.waits)
    return one != other and other in reached(follow, one)


def readers(program, value):
    """The set of the steps that read this value."""
    check_names(program.steps, (value,))
    return tuple([other for one, other in program.reads if one == value])


def with_wait(program, one, other):
    """The Program in which other waits for one, too."""
    check_names(program.steps, (one, other))
    # The new pair comes last, so BadPair tells the number of the pairs ahead of it.
    waits = program.waits + ((one, other),)
    return Program(program.steps, program.reads, waits, program.kept)


def without_wait(program, one, other):
    """The Program in which other does not wait for one; what it reads stays."""
    check_names(program.steps, (one, other))
    if (one, other) not in program.waits:
        return program
    waits = [pair for pair in program.waits if pair != (one, other)]
    return Program(program.steps, program.reads, waits, program.kept)


def with_kept(program, value):
    """The Program in which this value is kept, too; raises NoStep as Program does."""
    return Program(program.steps, program.reads, program.waits, program.kept + (value,))


def check_names(steps, names):
    """Raises NoStep for the first of these names that is no step."""
    for name in names:
        if name not in steps:
            raise NoStep(name)


def followers(steps, pairs):
    """For each step those to which a pair leads from it."""
    follow = {step: [] for step in steps}
    for one, other in pairs:
        follow[one].append(other)
    return follow


def reached(follow, start):
    """What a chain leads to from start, start too; each with the one ahead of it in a chain."""
    ahead = {start: start}
    waiting = [start]
    while waiting:
        step = waiting.pop()
        for other in follow[step]:
            if other not in ahead:
                ahead[other] = step
                waiting.append(other)
    return ahead


def chain_to(follow, start, goal):
    """A chain from start to goal, both too; None if there is none."""
    ahead = reached(follow, start)
    if goal not in ahead:
        return None
    chain = [goal]
    while chain[-1] != start:
        chain.append(ahead[chain[-1]])
    return tuple(chain[::-1])


def in_order(steps, pairs):
    """The steps, each behind all from which a chain of pairs without rounds leads to it."""
    follow = followers(steps, pairs)
    # What is ahead of a step reaches the step and all that the step reaches: more than the step does.
    return [step for _, step in sorted([(-len(reached(follow, step)), step) for step in steps])]


def _pairs_in_order(pairs):
    return tuple(sorted({(one, other) for one, other in pairs}))


def _first_bad_pair(steps, pairs):
    """The place of the first pair that can't stand behind those ahead of it, or None."""
    follow = {step: [] for step in steps}
    for place, (one, other) in enumerate(pairs):
        if one not in follow or other not in follow or one in reached(follow, other):
            return place
        follow[one].append(other)
    return None

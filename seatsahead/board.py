"""A board of Programs, each with a name, and deeds that can be undone."""

from seatsahead.compare import lot_factor, never_worse
from seatsahead.errors import Known, NoProgram, NothingDone
from seatsahead.meets import can_meet
from seatsahead.programs import with_kept, with_wait, without_wait
from seatsahead.sizes import check_count, lots_of, worst


class Board:
    """Programs by their names; at first there are none."""

    def __init__(self):
        self._programs = {}
        self._ahead = []

    @property
    def names(self):
        """The set of the names."""
        return tuple(sorted(self._programs))

    @property
    def deeds(self):
        """How many deeds can be undone."""
        return len(self._ahead)

    def put(self, name, program):
        """Puts one Program more on the Board."""
        self._check_new(name)
        self._do({**self._programs, name: program})

    def drop(self, name):
        """Takes this Program off the Board."""
        self._check_there(name)
        self._do(self._without(name))

    def rename(self, name, new):
        """Gives this Program a new name."""
        program = self[name]
        self._check_new(new)
        self._do({**self._without(name), new: program})

    def let_wait(self, name, one, other):
        """Lets other wait for one in this Program, too."""
        self._do({**self._programs, name: with_wait(self[name], one, other)})

    def let_run(self, name, one, other):
        """Lets other wait for one in this Program no more."""
        self._do({**self._programs, name: without_wait(self[name], one, other)})

    def hold(self, name, value):
        """Keeps this value of this Program to the end."""
        self._do({**self._programs, name: with_kept(self[name], value)})

    def undo(self):
        """Undoes the last deed that is not undone yet."""
        if len(self._ahead) == 0:
            raise NothingDone()
        self._programs = self._ahead.pop()

    def twin(self):
        """An equal Board without deeds to undo."""
        other = Board()
        other._programs = dict(self._programs)
        return other

    def can_meet(self, name, one, other):
        """Whether both values of this Program can live at one moment of some RUN."""
        return can_meet(self[name], one, other)

    def room_for(self, name, sizes):
        """WORST and LOTS of this Program by these SIZES."""
        program = self[name]
        check_count(program, sizes)
        return worst(program, sizes), lots_of(program, sizes)

    def never_worse(self, name, to):
        """Whether WORST of this Program is at most that of the other one, whatever the SIZES."""
        return never_worse(self[name], self[to])

    def lot_factor(self, name, to):
        """The least number such that LOTS of this Program is at most so many times LOTS of the other one."""
        return lot_factor(self[name], self[to])

    def __len__(self):
        return len(self._programs)

    def __contains__(self, name):
        return name in self._programs

    def __getitem__(self, name):
        self._check_there(name)
        return self._programs[name]

    def __iter__(self):
        raise TypeError("a Board can't be gone through; its names can")

    def __eq__(self, other):
        return isinstance(other, Board) and self._programs == other._programs

    def _check_there(self, name):
        if name not in self._programs:
            raise NoProgram(name)

    def _check_new(self, name):
        if name in self._programs:
            raise Known(name)

    def _without(self, name):
        return {other: program for other, program in self._programs.items() if other != name}

    def _do(self, programs):
        # Each deed makes a dict of its own, so that the one ahead of it can be taken up again.
        self._ahead.append(self._programs)
        self._programs = programs

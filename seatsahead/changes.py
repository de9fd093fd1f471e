"""A Program and SIZES that change, with the greatest sum of values that meet behind each deed."""

from seatsahead.errors import NothingDone
from seatsahead.programs import Program, check_names, with_kept, with_wait, without_wait
from seatsahead.sizes import check_count, lots_of


class Watch:
    """A Program and SIZES, and the deeds by which they have changed."""

    def __init__(self, program, sizes):
        check_count(program, sizes)
        self._program = program
        self._sizes = tuple(sizes)
        self._most = lots_of(program, sizes)
        self._ahead = []

    @property
    def program(self):
        """The Program as it is now."""
        return self._program

    @property
    def sizes(self):
        """The SIZES as they are now."""
        return self._sizes

    @property
    def most(self):
        """The greatest sum of the SIZES of a LOT now."""
        return self._most

    @property
    def told(self):
        """What most was at the beginning and behind each deed that is not taken back."""
        return tuple([*[most for _, _, most in self._ahead], self._most])

    def wait(self, one, other):
        """Lets other wait for one, too."""
        return self._change(with_wait(self._program, one, other), self._sizes)

    def free(self, one, other):
        """Lets other wait for one no more."""
        return self._change(without_wait(self._program, one, other), self._sizes)

    def keep(self, value):
        """Keeps this value to the end."""
        return self._change(with_kept(self._program, value), self._sizes)

    def let_go(self, value):
        """Keeps this value no more."""
        program = self._program
        check_names(program.steps, (value,))
        kept = [other for other in program.kept if other != value]
        return self._change(Program(program.steps, program.reads, program.waits, kept), self._sizes)

    def size(self, value, number):
        """Gives this SIZE to the value."""
        steps = self._program.steps
        check_names(steps, (value,))
        sizes = [number if step == value else size for step, size in zip(steps, self._sizes)]
        return self._change(self._program, sizes)

    def back(self):
        """Takes back the last deed that is not taken back."""
        if len(self._ahead) == 0:
            raise NothingDone()
        self._program, self._sizes, self._most = self._ahead.pop()

    def twin(self):
        """An equal Watch, with the same deeds to take back."""
        other = Watch(self._program, self._sizes)
        other._ahead = list(self._ahead)
        return other

    def __len__(self):
        return len(self._ahead)

    def __eq__(self, other):
        return (
            isinstance(other, Watch)
            and self._program == other._program
            and self._sizes == other._sizes
            and self.told == other.told
        )

    def _change(self, program, sizes):
        most = lots_of(program, sizes)
        self._ahead.append((self._program, self._sizes, self._most))
        self._program = program
        self._sizes = tuple(sizes)
        self._most = most
        return most

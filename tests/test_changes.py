"""[18], and what [2] and [3] say of it: a Program and SIZES that change."""

import random

from seatsahead import changes as module, errors, programs
from seatsahead.changes import Watch
from seatsahead.errors import BadPair, NoStep, NothingDone, OtherSteps
from seatsahead.programs import Program
from tests.cases import Case, ways
from tests.strange import STRANGE
from tests.walks import APART, NAMED, ends_of, lots_by_walk, sum_by

EXAMPLES = '''
    >>> watch = Watch(Program.of("a b c d | a b; a c; b d; c d | - | d"), (1, 2, 3, 4))
    >>> watch.most, watch.wait("b", "c"), watch.keep("a"), watch.size("d", 1), watch.let_go("a"), watch.free("b", "c"), watch.told, watch.sizes, watch.program.text, len(watch)
    (9, 9, 10, 7, 6, 6, (9, 9, 10, 7, 6, 6), (1, 2, 3, 1), 'a b c d | a b; a c; b d; c d | - | d', 5)
    >>> mate = watch.twin()
    >>> mate == watch, mate.back(), mate.back(), mate == watch, mate.program.text, mate.most, watch.most
    (True, None, None, False, 'a b c d | a b; a c; b d; c d | b c | a d', 7, 6)
    >>> watch.wait("d", "a")
    raises BadPair(place=4)
    >>> watch.size("x", 1)
    raises NoStep(name='x')
'''
HOUSE = "a b c d | a b; a c; b d; c d | - | d"


def most_by_walk(program, sizes):
    return max(sum_by(program, sizes, lot) for lot in lots_by_walk(program))


def state(watch):
    return watch.program.text, watch.sizes, watch.most, watch.told, len(watch)


def other_program(program, waits=None, kept=None):
    return Program(program.steps, program.reads, program.waits if waits is None else waits,
                   program.kept if kept is None else kept)


class Mirror:
    """What a Watch must be, kept beside it: the Programs and SIZES behind each deed."""

    def __init__(self, program, sizes):
        self.states = [(program, tuple(sizes))]

    def after(self, name, *told):
        """The Program and SIZES behind this deed, or the error that it raises."""
        program, sizes = self.states[-1]
        bad = [step for step in told[:1 + (name in ("wait", "free"))] if step not in program.steps]
        if bad:
            return NoStep, {"name": bad[0]}
        if name == "wait":
            if told[0] == told[1] or told[::-1] in ends_of(program):
                return BadPair, {"place": len(program.reads) + len(program.waits)}
            return other_program(program, {*program.waits, told}), sizes
        if name == "free":
            return other_program(program, [pair for pair in program.waits if pair != told]), sizes
        if name == "keep":
            return other_program(program, kept={*program.kept, told[0]}), sizes
        if name == "let_go":
            return other_program(program, kept=[value for value in program.kept if value != told[0]]), sizes
        at = program.steps.index(told[0])
        return program, sizes[:at] + told[1:] + sizes[at + 1:]

    def state(self):
        told = tuple(most_by_walk(*one) for one in self.states)
        program, sizes = self.states[-1]
        return program.text, sizes, told[-1], told, len(self.states) - 1


def drawn_deed(draw, steps):
    name = draw.choice(("wait", "wait", "free", "keep", "let_go", "size", "size"))
    names = (*steps, *steps, "z")
    if name in ("wait", "free"):
        return name, draw.choice(names), draw.choice(names)
    if name == "size":
        return name, draw.choice(names), draw.choice((0, 1, 2, 3, 7, 10 ** 29))
    return name, draw.choice(names)


class TestWatch(Case):

    def test_the_examples(self):
        self.examples(EXAMPLES, {**vars(errors), **vars(programs), **vars(module)})

    def test_deed_by_deed(self):
        refused = {}
        for seed in range(60):
            draw = random.Random(seed)
            program = Program.of(draw.choice((*NAMED, APART)))
            sizes = tuple(draw.choice((0, 1, 2, 5)) for _ in program.steps)
            watch, mirror = Watch(program, sizes), Mirror(program, sizes)
            self.same(state(watch), mirror.state())
            for _ in range(25):
                if draw.random() < 0.2:
                    self.take_back(watch, mirror)
                else:
                    error = self.do(watch, mirror, drawn_deed(draw, program.steps))
                    refused[error] = True
                self.same(state(watch), mirror.state())
            while len(watch):
                self.take_back(watch, mirror)
                self.same(state(watch), mirror.state())
            self.assertEqual(watch, Watch(program, sizes))
            self.refuses(NothingDone, {}, watch.back)
            self.same(state(watch), mirror.state())
        self.assertEqual(set(refused), {None, NoStep, BadPair})

    def do(self, watch, mirror, deed):
        name, *told = deed
        ahead = state(watch)
        first, second = mirror.after(name, *told)
        if isinstance(first, Program):
            mirror.states.append((first, second))
            self.same(getattr(watch, name)(*told), mirror.state()[2])
            return None
        self.refuses(first, second, getattr(watch, name), *told)
        self.same(state(watch), ahead)
        return first

    def take_back(self, watch, mirror):
        if len(mirror.states) == 1:
            self.refuses(NothingDone, {}, watch.back)
        else:
            mirror.states.pop()
            self.same(watch.back(), None)

    def test_deeds_that_change_nothing_are_deeds(self):
        watch = Watch(Program.of("a b c | a b | a c | b"), (1, 2, 3))
        for number, (name, *told) in enumerate([("wait", "a", "c"), ("free", "b", "c"), ("free", "a", "b"), ("keep", "b"),
                                                ("let_go", "a"), ("size", "b", 2), ("free", "a", "a")]):
            self.same(getattr(watch, name)(*told), watch.told[0])
            self.same((len(watch), len(watch.told)), (number + 1, number + 2))
            self.same((watch.program.text, watch.sizes), ("a b c | a b | a c | b", (1, 2, 3)))
        for number in range(7, 0, -1):
            self.same(len(watch), number)
            self.same(watch.back(), None)
        self.refuses(NothingDone, {}, watch.back)

    def test_wait_and_let_go_never_make_most_greater(self):
        for seed in range(30):
            draw = random.Random(seed)
            watch = Watch(Program.of(HOUSE), [draw.randrange(9) for _ in range(4)])
            for _ in range(12):
                name, *told = drawn_deed(draw, "abcd")
                ahead = watch.most
                try:
                    most = getattr(watch, name)(*told)
                except (NoStep, BadPair):
                    most = watch.most
                if name in ("wait", "let_go"):
                    self.assertLessEqual(most, ahead)

    def test_errors_of_each_deed(self):
        watch = Watch(Program.of(HOUSE), (1, 2, 3, 4))
        watch.keep("a")
        ahead = state(watch)
        for error, told, name, *values in [
                (NoStep, {"name": "z"}, "wait", "z", "a"), (NoStep, {"name": "z"}, "wait", "a", "z"),
                (NoStep, {"name": "y"}, "wait", "y", "z"), (BadPair, {"place": 4}, "wait", "d", "a"),
                (BadPair, {"place": 4}, "wait", "b", "b"), (NoStep, {"name": "z"}, "free", "z", "a"),
                (NoStep, {"name": "z"}, "free", "a", "z"), (NoStep, {"name": "z"}, "keep", "z"),
                (NoStep, {"name": "z"}, "let_go", "z"), (NoStep, {"name": "z"}, "size", "z", 3),
                (NoStep, {"name": ""}, "size", "", 0)]:
            self.refuses(error, told, getattr(watch, name), *values)
            self.same(state(watch), ahead)

    def test_other_steps(self):
        for text, sizes in ((HOUSE, ()), (HOUSE, (1, 2, 3)), (HOUSE, (1, 2, 3, 4, 5)), ("- | - | - | -", (0,))):
            for place, name in ways(["program", "sizes"], [Program.of(text), sizes]):
                self.refuses(OtherSteps, {}, Watch, *place, **name)

    def test_arguments_by_name_and_lists(self):
        for place, name in ways(["program", "sizes"], [Program.of(HOUSE), (1, 2, 3, 4)]):
            watch = Watch(*place, **name)
            self.same(state(watch), (HOUSE, (1, 2, 3, 4), 9, (9,), 0))
            self.same(watch.wait(other="c", one="b"), 9)
            self.same(watch.keep(value="a"), 10)
            self.same(watch.size(number=1, value="d"), 7)
            self.same(watch.let_go(value="a"), 6)
            self.same(watch.free(other="c", one="b"), 6)
            self.same(watch.told, (9, 9, 10, 7, 6, 6))

    def test_lists_that_change_later(self):
        sizes = [1, 2, 3, 4]
        watch = Watch(Program.of(HOUSE), sizes)
        sizes[0] = 10
        sizes.append(1)
        self.same(state(watch), (HOUSE, (1, 2, 3, 4), 9, (9,), 0))
        watch.size("a", 2)
        self.same(sizes, [10, 2, 3, 4, 1])

    def test_nothing_can_be_set(self):
        watch = Watch(Program.of(HOUSE), (1, 2, 3, 4))
        for name in ("program", "sizes", "most", "told"):
            with self.assertRaises(AttributeError):
                setattr(watch, name, ())
            self.assertIsInstance(vars(Watch)[name], property)

    def test_what_is_told_does_not_change_with_it(self):
        watch = Watch(Program.of(HOUSE), (1, 2, 3, 4))
        program, sizes, told = watch.program, watch.sizes, watch.told
        watch.wait("b", "c")
        watch.size("a", 9)
        self.same((program.text, sizes, told), (HOUSE, (1, 2, 3, 4), (9,)))

    def test_twin(self):
        watch = Watch(Program.of(HOUSE), (1, 2, 3, 4))
        watch.wait("b", "c"), watch.size("d", 1), watch.keep("a")
        mate = watch.twin()
        self.assertIs(mate == watch, True)
        ahead = state(watch)
        self.same(state(mate), ahead)
        mate.back(), mate.back(), mate.size("a", 7)
        self.same(state(watch), ahead)
        self.same(state(mate), ("a b c d | a b; a c; b d; c d | b c | d", (7, 2, 3, 4), 12, (9, 9, 12), 2))
        later = watch.twin()
        watch.back()
        self.same(state(later), ahead)
        for _ in range(3):
            later.back()
        self.refuses(NothingDone, {}, later.back)
        self.assertEqual(later, Watch(Program.of(HOUSE), (1, 2, 3, 4)))
        self.same(len(watch), 2)
        self.same(len(Watch(Program(()), ()).twin()), 0)

    def test_equal_ones(self):
        def watched(*deeds, text=HOUSE, sizes=(1, 2, 3, 4)):
            watch = Watch(Program.of(text), sizes)
            for name, *told in deeds:
                getattr(watch, name)(*told)
            return watch

        one = watched(("size", "d", 5), ("keep", "a"))
        self.assertIs(one == watched(("size", "d", 5), ("keep", "a")), True)
        self.assertIs(one != watched(("size", "d", 5), ("keep", "a")), False)
        unlike = [watched(), watched(("size", "d", 5)), watched(("keep", "a"), ("size", "d", 6), ("size", "d", 5)),
                  watched(("size", "d", 5), ("keep", "a"), ("free", "b", "c")), watched(text=HOUSE[:-1] + "a d"),
                  watched(("size", "d", 5), ("keep", "b")), watched(("size", "d", 6), ("keep", "a")), one.program]
        for other in [*unlike, *STRANGE]:
            self.assertIs(one == other, False)
            self.assertIs(one != other, True)
            self.assertIs(other == one, False)
        # Other deeds, or the same ones in another order, by which the same was told behind each.
        self.assertIs(one == watched(("keep", "a"), ("size", "d", 5)), True)
        self.assertIs(watched(("free", "a", "b")) == watched(("free", "c", "d")), True)
        self.assertIs(watched(sizes=(0, 0, 0, 0)) == watched(sizes=(0, 0, 0, 1)), False)
        # The same most, and other SIZES or another Program.
        self.assertIs(watched(text="a b | - | - | -", sizes=(1, 2)) == watched(text="a b | - | - | -", sizes=(2, 1)), False)
        self.assertIs(watched(text="a b | - | - | -", sizes=(1, 2)) == watched(text="a b | - | - | a", sizes=(1, 2)), False)
        # The same now, and another most on the way.
        self.assertIs(watched(("size", "a", 9), ("size", "a", 1)) == watched(("size", "a", 8), ("size", "a", 1)), False)
        self.assertIs(watched(("size", "d", 1), ("keep", "a")) == watched(("keep", "a"), ("size", "d", 1)), False)

    def test_iteration(self):
        with self.assertRaises(TypeError):
            iter(Watch(Program.of(HOUSE), (1, 2, 3, 4)))
        with self.assertRaises(TypeError):
            list(Watch(Program(()), ()))

    def test_no_steps_and_no_sizes(self):
        watch = Watch(Program(()), ())
        self.same(state(watch), ("- | - | - | -", (), 0, (0,), 0))
        self.refuses(NoStep, {"name": "a"}, watch.keep, "a")
        self.refuses(NoStep, {"name": "a"}, watch.size, "a", 1)
        self.refuses(NothingDone, {}, watch.back)
        none = Watch(Program.of(HOUSE), (0, 0, 0, 0))
        self.same((none.most, none.keep("a"), none.size("a", 10 ** 29), none.size("a", 0)), (0, 0, 10 ** 29, 0))
        self.same(none.told, (0, 0, 10 ** 29, 0))

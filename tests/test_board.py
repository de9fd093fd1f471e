"""[20], and what [2] and [3] say of it: a board of Programs."""

import random

from seatsahead import board as module, errors, programs
from seatsahead.board import Board
from seatsahead.compare import lot_factor, never_worse
from seatsahead.errors import BadPair, Known, NoProgram, NoStep, NothingDone, OtherSteps
from seatsahead.meets import can_meet
from seatsahead.programs import Program
from seatsahead.sizes import lots_of, worst
from tests.cases import Case
from tests.strange import STRANGE
from tests.walks import ends_of, lots_by_walk, meets, moments_by_walk, sum_by

EXAMPLES = '''
    >>> board = Board()
    >>> board.put("free", Program(("a", "b", "c"))), board.put("line", Program.of("a b c | - | a b; b c | -")), board.names, len(board), board.deeds
    (None, None, ('free', 'line'), 2, 2)
    >>> board.room_for("free", (3, 1, 2)), board.room_for("line", (3, 1, 2)), board.lot_factor("free", "line"), board.never_worse("line", "free"), board.can_meet("line", "a", "c")
    ((6, 6), (3, 3), 3, True, False)
    >>> board.hold("line", "a"), board.room_for("line", (3, 1, 2)), board.let_run("line", "b", "c"), board["line"].text, board.rename("line", "part"), board.room_for("part", (3, 1, 2))
    (None, (5, 5), None, 'a b c | - | a b | a', None, (6, 6))
    >>> copy = board.twin()
    >>> board.undo(), board.undo(), board.names, copy == board, copy.deeds, board.deeds
    (None, None, ('free', 'line'), False, 0, 3)
    >>> board.let_wait("free", "a", "b"), board.room_for("free", (3, 1, 2)), board.drop("line"), board.names, board.undo(), board.names
    (None, (5, 5), None, ('free',), None, ('free', 'line'))
    >>> board.let_wait("line", "c", "a")
    raises BadPair(place=2)
    >>> board.hold("line", "z")
    raises NoStep(name='z')
    >>> board.room_for("line", (1, 2))
    raises OtherSteps()
    >>> board.never_worse("line", "part")
    raises NoProgram(name='part')
'''
TEXTS = ("a b c | - | - | -", "a b c | - | a b; b c | -", "a b c | a b; b c | - | c", "a b c | a c; b c | a b | -", "- | - | - | -",
         "a b | a b | - | -", "a b c d e f g h | a b; c d; e f; g h | b c; f g | h", "a b c d e f g h | - | - | -")
NAMES = ("one", "two", "three", "four")


def state(board):
    texts = {name: board[name].text for name in board.names}
    return board.names, texts, len(board), board.deeds


def changed(program, waits=None, kept=None):
    return Program(program.steps, program.reads, program.waits if waits is None else waits,
                   program.kept if kept is None else kept)


class Mirror:
    """What a Board must be, kept beside it: the Programs behind each deed."""

    def __init__(self):
        self.states = [{}]

    def state(self):
        texts = {name: self.states[-1][name].text for name in sorted(self.states[-1])}
        return tuple(sorted(texts)), texts, len(texts), len(self.states) - 1

    def after(self, deed, name, *told):
        """The Programs behind this deed, or the error that it raises."""
        programs_now = dict(self.states[-1])
        if deed == "put":
            return (Known, {"name": name}) if name in programs_now else {**programs_now, name: told[0]}
        if name not in programs_now:
            return NoProgram, {"name": name}
        program = programs_now[name]
        if deed == "drop":
            del programs_now[name]
            return programs_now
        if deed == "rename":
            if told[0] in programs_now:
                return Known, {"name": told[0]}
            programs_now[told[0]] = programs_now.pop(name)
            return programs_now
        bad = [step for step in told if step not in program.steps]
        if bad:
            return NoStep, {"name": bad[0]}
        if deed == "let_wait" and (told[0] == told[1] or told[::-1] in ends_of(program)):
            return BadPair, {"place": len(program.reads) + len(program.waits)}
        if deed == "let_wait":
            return {**programs_now, name: changed(program, waits={*program.waits, told})}
        if deed == "let_run":
            return {**programs_now, name: changed(program, waits=[pair for pair in program.waits if pair != told])}
        return {**programs_now, name: changed(program, kept={*program.kept, told[0]})}


def drawn_deed(draw):
    deed = draw.choice(("put", "put", "drop", "rename", "let_wait", "let_wait", "let_wait", "let_run", "hold", "hold"))
    name = draw.choice(NAMES)
    steps = draw.choice(("ab", "abc", "abcz"))
    if deed == "put":
        return deed, name, Program.of(draw.choice(TEXTS))
    if deed == "drop":
        return deed, name
    if deed == "rename":
        return deed, name, draw.choice(NAMES)
    if deed == "hold":
        return deed, name, draw.choice(steps)
    return deed, name, draw.choice(steps), draw.choice(steps)


def filled():
    board = Board()
    board.put("one", Program.of(TEXTS[0]))
    board.put("two", Program.of(TEXTS[1]))
    board.put("pair", Program.of(TEXTS[5]))
    return board


class TestDeeds(Case):

    def test_the_examples(self):
        self.examples(EXAMPLES, {**vars(errors), **vars(programs), **vars(module)})

    def test_deed_by_deed(self):
        refused = {}
        for seed in range(80):
            draw = random.Random(seed)
            board, mirror = Board(), Mirror()
            for _ in range(40):
                if draw.random() < 0.15:
                    self.undo(board, mirror)
                else:
                    refused[self.do(board, mirror, drawn_deed(draw))] = True
                self.same(state(board), mirror.state())
            self.asks(draw, board, mirror.states[-1])
            while board.deeds:
                self.undo(board, mirror)
                self.same(state(board), mirror.state())
            self.undo(board, mirror)
            self.assertEqual(board, Board())
        self.assertEqual(set(refused), {None, Known, NoProgram, NoStep, BadPair})

    def do(self, board, mirror, told):
        deed, *values = told
        ahead = state(board)
        want = mirror.after(deed, *values)
        if isinstance(want, dict):
            mirror.states.append(want)
            self.same(getattr(board, deed)(*values), None)
            return None
        self.refuses(*want, getattr(board, deed), *values)
        self.same(state(board), ahead)
        return want[0]

    def undo(self, board, mirror):
        if len(mirror.states) == 1:
            ahead = state(board)
            self.refuses(NothingDone, {}, board.undo)
            self.same(state(board), ahead)
        else:
            mirror.states.pop()
            self.same(board.undo(), None)

    def asks(self, draw, board, known):
        """What the Board tells is what the Programs tell."""
        ahead = state(board)
        for name, program in known.items():
            sizes = tuple(draw.randrange(5) for _ in program.steps)
            self.same(board.room_for(name, sizes), (worst(program, sizes), lots_of(program, sizes)))
            for one in program.steps:
                for other in program.steps:
                    self.same(board.can_meet(name, one, other), can_meet(program, one, other))
            for to, other in known.items():
                if program.steps == other.steps:
                    self.same(board.lot_factor(name, to), lot_factor(program, other))
                    self.same(board.never_worse(name, to), never_worse(program, other))
                else:
                    self.refuses(OtherSteps, {}, board.lot_factor, name, to)
                    self.refuses(OtherSteps, {}, board.never_worse, name, to)
        self.same(state(board), ahead)

    def test_behind_every_kind_of_deed(self):
        board = filled()
        deeds = [("let_wait", "one", "a", "b"), ("hold", "two", "a"), ("let_run", "two", "b", "c"), ("rename", "two", "new"),
                 ("rename", "new", "two"), ("drop", "pair"), ("put", "other", Program.of(TEXTS[3])), ("undo",), ("undo",)]
        for deed, *values in deeds:
            getattr(board, deed)(*values)
            for name in board.names:
                self.by_walk(board, name)
            for name in [name for name in ("two", "new") if name in board]:
                self.pair_by_walk(board, "one", name)
                self.pair_by_walk(board, name, "one")

    def by_walk(self, board, name):
        program = board[name]
        sizes = tuple(3 ** place for place in range(len(program)))
        want = tuple(max(sum_by(program, sizes, some) for some in sets)
                     for sets in (moments_by_walk(program), lots_by_walk(program)))
        self.same(board.room_for(name, sizes), want)
        for one in program.steps:
            for other in program.steps:
                self.same(board.can_meet(name, one, other), meets(program, one, other))

    def pair_by_walk(self, board, name, to):
        one, other = board[name], board[to]
        rows = [lot for lot in lots_by_walk(one) if not any(
            meets(other, first, last) for first in lot for last in lot if first < last)]
        self.same(board.lot_factor(name, to), max(map(len, rows)))
        self.same(board.never_worse(name, to), set(moments_by_walk(one)) <= set(moments_by_walk(other)))

    def test_deeds_that_change_nothing_are_deeds(self):
        board = filled()
        board.hold("two", "a"), board.let_wait("one", "a", "b")
        self.same(board.deeds, 5)
        for number, (deed, *values) in enumerate([
                ("hold", "two", "a"), ("let_wait", "one", "a", "b"), ("let_run", "one", "b", "c"), ("let_run", "two", "c", "a"),
                ("let_run", "one", "c", "c")]):
            _, texts, _, _ = state(board)
            self.same(getattr(board, deed)(*values), None)
            self.same((state(board)[1], board.deeds), (texts, 6 + number))
        for number in range(9, -1, -1):
            self.same(board.undo(), None)
            self.same(board.deeds, number)
        self.refuses(NothingDone, {}, board.undo)

    def test_the_error_that_is_told_first(self):
        board = filled()
        board.hold("one", "a")
        ahead = state(board)
        for error, told, call, *values in [
                (Known, {"name": "one"}, "put", "one", Program(())), (NoProgram, {"name": "no"}, "drop", "no"),
                (NoProgram, {"name": "no"}, "rename", "no", "one"), (NoProgram, {"name": "no"}, "rename", "no", "no"),
                (Known, {"name": "two"}, "rename", "one", "two"), (Known, {"name": "one"}, "rename", "one", "one"),
                (NoProgram, {"name": "no"}, "let_wait", "no", "z", "z"), (NoStep, {"name": "z"}, "let_wait", "two", "z", "y"),
                (NoStep, {"name": "z"}, "let_wait", "two", "a", "z"), (BadPair, {"place": 2}, "let_wait", "two", "c", "a"),
                (BadPair, {"place": 0}, "let_wait", "one", "b", "b"), (BadPair, {"place": 1}, "let_wait", "pair", "b", "a"),
                (NoProgram, {"name": "no"}, "let_run", "no", "z", "a"), (NoStep, {"name": "z"}, "let_run", "two", "z", "y"),
                (NoStep, {"name": "y"}, "let_run", "two", "a", "y"), (NoProgram, {"name": "no"}, "hold", "no", "z"),
                (NoStep, {"name": "z"}, "hold", "two", "z"), (NoProgram, {"name": "no"}, "can_meet", "no", "z", "z"),
                (NoStep, {"name": "z"}, "can_meet", "two", "z", "y"), (NoStep, {"name": "y"}, "can_meet", "two", "a", "y"),
                (NoProgram, {"name": "no"}, "room_for", "no", ()), (OtherSteps, {}, "room_for", "two", (1, 2)),
                (OtherSteps, {}, "room_for", "two", (1, 2, 3, 4)), (OtherSteps, {}, "room_for", "two", ()),
                (NoProgram, {"name": "no"}, "never_worse", "no", "nor"), (NoProgram, {"name": "nor"}, "never_worse", "one", "nor"),
                (NoProgram, {"name": "no"}, "lot_factor", "no", "nor"), (NoProgram, {"name": "nor"}, "lot_factor", "pair", "nor"),
                (OtherSteps, {}, "never_worse", "one", "pair"), (OtherSteps, {}, "lot_factor", "pair", "one")]:
            self.refuses(error, told, getattr(board, call), *values)
            self.same(state(board), ahead)
        self.refuses(NoProgram, {"name": "no"}, lambda: board["no"])
        self.refuses(NoProgram, {"name": "z"}, lambda: Board()["z"])
        self.refuses(NothingDone, {}, Board().undo)

    def test_arguments_by_name_and_lists(self):
        board = Board()
        self.same(board.put(program=Program.of(TEXTS[1]), name="line"), None)
        self.same(board.rename(new="new", name="line"), None)
        self.same(board.let_run(other="c", one="b", name="new"), None)
        self.same(board.let_wait(other="c", one="a", name="new"), None)
        self.same(board.hold(value="b", name="new"), None)
        self.same(board["new"].text, "a b c | - | a b; a c | b")
        sizes = [1, 2, 3]
        for told in (board.room_for("new", sizes), board.room_for(sizes=(1, 2, 3), name="new")):
            self.same(told, (5, 5))
        self.same(sizes, [1, 2, 3])
        self.same(board.can_meet(other="c", one="b", name="new"), True)
        self.same((board.never_worse(to="new", name="new"), board.lot_factor(to="new", name="new")), (True, 1))
        self.same(board.drop(name="new"), None)
        self.same(state(board), ((), {}, 0, 6))


class TestBoard(Case):

    def test_names_len_and_in(self):
        board = Board()
        self.same((board.names, len(board), "a" in board, board.deeds), ((), 0, False, 0))
        for number, name in enumerate(["pair", "b", "zz", "aa", "abcdefgh", "a"]):
            board.put(name, Program.of(TEXTS[number]))
            self.same((len(board), name in board, board[name].text), (number + 1, True, TEXTS[number]))
        self.same(board.names, ("a", "aa", "abcdefgh", "b", "pair", "zz"))
        board.drop("b")
        self.same((board.names, "b" in board, len(board)), (("a", "aa", "abcdefgh", "pair", "zz"), False, 5))

    def test_the_same_program_under_two_names(self):
        board = Board()
        program = Program.of(TEXTS[1])
        board.put("one", program), board.put("two", program)
        board.hold("one", "a")
        self.same((board["one"].text, board["two"].text), ("a b c | - | a b; b c | a", TEXTS[1]))
        self.same(program.text, TEXTS[1])

    def test_iteration(self):
        for board in (Board(), filled()):
            with self.assertRaises(TypeError):
                iter(board)
            with self.assertRaises(TypeError):
                list(board)

    def test_nothing_can_be_set(self):
        board = filled()
        for name in ("names", "deeds"):
            with self.assertRaises(AttributeError):
                setattr(board, name, ())
            self.assertIsInstance(vars(Board)[name], property)

    def test_twin(self):
        board = filled()
        board.hold("one", "a")
        twin = board.twin()
        self.assertIs(twin == board, True)
        self.same((twin.deeds, board.deeds), (0, 4))
        self.refuses(NothingDone, {}, twin.undo)
        ahead = state(board)
        twin.drop("two"), twin.hold("one", "b"), twin.put("three", Program(()))
        self.same(state(board), ahead)
        self.same((twin.names, twin["one"].text, twin.deeds), (("one", "pair", "three"), "a b c | - | - | a b", 3))
        board.undo(), board.drop("pair")
        self.same((twin.names, twin["one"].text, twin.deeds), (("one", "pair", "three"), "a b c | - | - | a b", 3))
        twin.undo(), twin.undo(), twin.undo()
        self.same(twin.names, ("one", "pair", "two"))
        self.refuses(NothingDone, {}, twin.undo)
        self.assertEqual(Board().twin(), Board())

    def test_equal_ones(self):
        one, other = filled(), Board()
        other.put("pair", Program.of(TEXTS[5])), other.put("x", Program(())), other.drop("x")
        self.assertIs(one == other, False)
        other.put("two", Program.of(TEXTS[1])), other.put("one", Program.of(TEXTS[0]))
        self.assertIs(one == other, True)
        self.assertIs(one != other, False)
        self.same((one.deeds, other.deeds), (3, 5))
        other.hold("one", "a")
        self.assertIs(one == other, False)
        self.assertIs(one != other, True)
        other.undo(), other.rename("one", "first")
        self.assertIs(one == other, False)
        for thing in [{name: one[name] for name in one.names}, Program.of(TEXTS[0]), *STRANGE]:
            self.assertIs(one == thing, False)
            self.assertIs(one != thing, True)
            self.assertIs(thing == one, False)
        self.assertIs(Board() == Board(), True)

    def test_undo_of_each_deed(self):
        for deed, *values in [("put", "new", Program(())), ("drop", "two"), ("rename", "two", "new"), ("hold", "two", "b"),
                              ("let_wait", "one", "a", "b"), ("let_run", "two", "a", "b")]:
            board = filled()
            ahead = state(board)
            getattr(board, deed)(*values)
            self.assertNotEqual(state(board), ahead)
            board.undo()
            self.same(state(board), ahead)

    def test_at_the_bounds(self):
        board = Board()
        for letter in "abcdefghijkl":
            board.put(letter, Program.of(TEXTS[6]))
        for number in range(48):
            board.hold("abcdefghijkl"[number % 12], "abcdefgh"[number // 12 + number % 4])
        self.same((board.deeds, len(board)), (60, 12))
        self.same(board.room_for("a", (1, 2, 3, 4, 5, 6, 7, 8)),
                  (worst(board["a"], (1, 2, 3, 4, 5, 6, 7, 8)), lots_of(board["a"], (1, 2, 3, 4, 5, 6, 7, 8))))
        self.same(board.lot_factor("a", "b"), lot_factor(board["a"], board["b"]))
        for _ in range(60):
            board.undo()
        self.assertEqual(board, Board())

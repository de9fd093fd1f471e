"""[4], and what [2] and [3] say of it: Programs."""

from itertools import combinations, permutations, product

from seatsahead import errors, programs
from seatsahead.errors import BadPair, BadText, NoStep
from seatsahead.programs import (
    Program, all_ends, readers, surely_ended, with_kept, with_wait, without_wait)
from tests.cases import Case, shown, ways, with_lists

EXAMPLES = '''
    >>> program = Program(("load", "mix", "save"), (("mix", "save"), ("load", "mix")), (), ("save",))
    >>> program.steps, program.reads, program.waits, program.kept, program.text, len(program), "mix" in program, "log" in program
    (('load', 'mix', 'save'), (('load', 'mix'), ('mix', 'save')), (), ('save',), 'load mix save | load mix; mix save | - | save', 3, True, False)
    >>> Program.of("load mix save | load mix; mix save | - | save") == program, Program(()).text, Program.of("- | - | - | -") == Program(()), surely_ended(program, "load", "save"), surely_ended(program, "save", "load"), all_ends(program)
    (True, '- | - | - | -', True, True, False, (('load', 'mix'), ('load', 'save'), ('mix', 'save')))
    >>> readers(program, "mix"), readers(program, "save"), with_wait(program, "load", "save").waits, without_wait(program, "load", "save") == program, with_kept(program, "load").kept
    (('save',), (), (('load', 'save'),), True, ('load', 'save'))
    >>> Program(("a", "b", "c"), (("a", "b"), ("b", "c")), (("c", "a"),))
    raises BadPair(place=2)
    >>> Program(("a", "b"), (("a", "b"),), (), ("b", "z"))
    raises NoStep(name='z')
    >>> Program.of("a b | a b | b a | -")
    raises BadText(piece=2)
    >>> Program.of("a b | a b")
    raises BadText(piece=2)
    >>> with_wait(program, "save", "load")
    raises BadPair(place=2)
    >>> surely_ended(program, "load", "log")
    raises NoStep(name='log')
'''
PARAMETERS = ["steps", "reads", "waits", "kept"]
ABC = ("a", "b", "c")
# Chains that mix READS and WAITS, one of them around a step, and a step on its own.
MIXED = "a b c d e f | a b; c d | a d; b c | d f"


def told(program):
    return program.steps, program.reads, program.waits, program.kept


def chains(steps, pairs):
    """The pairs (one, other) with a chain from one to other, found without the program."""
    found = set(map(tuple, pairs))
    for middle, one, other in product(steps, repeat=3):
        if (one, middle) in found and (middle, other) in found:
            found.add((one, other))
    return found


def first_bad(steps, pairs):
    """The place of the first pair that can't stand, or None, found without the program."""
    for place, (one, other) in enumerate(pairs):
        if one not in steps or other not in steps or one == other:
            return place
        if (one, one) in chains(steps, pairs[:place + 1]):
            return place
    return None


class TestMaking(Case):

    def made(self, values, want):
        for place, name in ways(PARAMETERS, values):
            with self.subTest(place=place, name=name):
                ahead = shown((place, name))
                self.same(told(Program(*place, **name)), want)
                self.assertEqual(Program(*place, **name), Program(*want))
                self.assertEqual(shown((place, name)), ahead)

    def test_the_examples(self):
        self.examples(EXAMPLES, {**vars(errors), **vars(programs)})

    def test_pairs_in_any_order(self):
        pairs = (("a", "b"), ("a", "c"), ("b", "c"))
        for order in permutations(pairs):
            self.made([ABC, order, (), ()], (ABC, pairs, (), ()))
            self.made([ABC, (), order, ()], (ABC, (), pairs, ()))

    def test_a_pair_counts_once(self):
        self.made([ABC, (("b", "c"), ("a", "b"), ("b", "c")), (), ()],
                  (ABC, (("a", "b"), ("b", "c")), (), ()))
        self.made([ABC, (), (("b", "c"), ("a", "b"), ("b", "c")), ()],
                  (ABC, (), (("a", "b"), ("b", "c")), ()))

    def test_a_pair_in_both(self):
        self.made([ABC, (("b", "a"),), (("b", "a"),), ()], (ABC, (("b", "a"),), (("b", "a"),), ()))
        self.made([ABC, (("c", "a"), ("b", "a")), (("c", "b"), ("b", "a")), ("a",)],
                  (ABC, (("b", "a"), ("c", "a")), (("b", "a"), ("c", "b")), ("a",)))

    def test_kept_values_in_any_order(self):
        for kept in permutations(ABC):
            self.made([ABC, (), (), kept], (ABC, (), (), ABC))
        self.made([ABC, (), (), ("c", "a")], (ABC, (), (), ("a", "c")))

    def test_no_steps(self):
        self.made([(), (), (), ()], ((), (), (), ()))

    def test_what_need_not_be_told(self):
        for program in (Program(ABC), Program(list(ABC)), Program(steps=ABC)):
            self.same(told(program), (ABC, (), (), ()))
        self.same(told(Program(ABC, (("a", "b"),))), (ABC, (("a", "b"),), (), ()))
        self.same(told(Program(ABC, waits=(("a", "b"),))), (ABC, (), (("a", "b"),), ()))
        self.same(told(Program(ABC, kept=("b",))), (ABC, (), (), ("b",)))
        self.same(told(Program(ABC, kept=("b",), reads=(("a", "b"),))), (ABC, (("a", "b"),), (), ("b",)))

    def test_long_names(self):
        names = ("aaaaaaaa", "abcdefgh", "b", "zzzzzzzz")
        self.made([names, (("zzzzzzzz", "b"),), (("abcdefgh", "b"),), ("zzzzzzzz",)],
                  (names, (("zzzzzzzz", "b"),), (("abcdefgh", "b"),), ("zzzzzzzz",)))

    def test_lists_that_change_behind_it(self):
        values = with_lists([ABC, (("b", "c"), ("a", "b")), (("a", "c"),), ("b",)])
        program = Program(*values)
        values[0].append("d")
        values[1][0][0] = "d"
        values[1].append(["a", "d"])
        values[2][0][1] = "d"
        values[2].clear()
        values[3][0] = "d"
        self.same(told(program), (ABC, (("a", "b"), ("b", "c")), (("a", "c"),), ("b",)))
        self.same(program.text, "a b c | a b; b c | a c | b")
        self.same(all_ends(program), (("a", "b"), ("a", "c"), ("b", "c")))

    def test_properties_have_no_setters(self):
        program = Program.of(MIXED)
        for name, value in zip(PARAMETERS + ["text"], (*told(program), program.text)):
            with self.subTest(name=name):
                self.assertRaises(AttributeError, setattr, program, name, value)
        self.same(program.text, MIXED)


class TestWrongPairs(Case):

    def bad(self, values, place):
        self.never_gives(Program, PARAMETERS, values, BadPair, {"place": place})

    def test_a_name_that_is_no_step(self):
        self.bad([ABC, (("z", "a"),), (), ()], 0)
        self.bad([ABC, (("a", "z"),), (), ()], 0)
        self.bad([ABC, (("a", "b"), ("b", "z")), (), ()], 1)
        self.bad([ABC, (("a", "b"), ("b", "c")), (("a", "c"), ("z", "c")), ()], 3)
        self.bad([(), (), (("a", "b"),), ()], 0)

    def test_a_name_twice(self):
        self.bad([ABC, (("a", "a"),), (), ()], 0)
        self.bad([ABC, (("a", "b"),), (("a", "b"), ("b", "b")), ()], 2)

    def test_rounds(self):
        self.bad([ABC, (("a", "b"), ("b", "a")), (), ()], 1)
        self.bad([ABC, (), (("a", "b"), ("b", "c"), ("c", "a")), ()], 2)
        self.bad([ABC, (("a", "b"), ("b", "c")), (("a", "c"), ("c", "a")), ()], 3)
        self.bad([ABC, (("c", "a"), ("b", "c")), (("a", "b"),), ()], 2)

    def test_pairs_that_come_again_are_counted(self):
        self.bad([ABC, (("a", "b"), ("a", "b"), ("b", "a")), (), ()], 2)
        self.bad([ABC, (("a", "b"), ("a", "b")), (("a", "b"), ("b", "a")), ()], 3)

    def test_the_first_of_several(self):
        self.bad([ABC, (("a", "b"), ("b", "z"), ("c", "c")), (("b", "a"),), ()], 1)
        self.bad([ABC, (("a", "b"), ("c", "c"), ("b", "z")), (("b", "a"),), ()], 1)
        self.bad([ABC, (("b", "a"),), (("a", "b"), ("z", "z")), ()], 1)
        self.bad([ABC, (("a", "b"),), (("b", "c"), ("c", "a"), ("b", "a")), ()], 2)

    def test_a_wrong_pair_comes_ahead_of_a_strange_kept_name(self):
        self.bad([ABC, (), (("a", "a"),), ("z",)], 0)
        self.bad([ABC, (("a", "b"), ("b", "a")), (), ("z", "a")], 1)

    def test_a_strange_kept_name(self):
        for kept, name in ((("z",), "z"), (("a", "z", "y"), "z"), (("y", "z", "b"), "y"), (("b", "aa"), "aa")):
            values = [ABC, (("a", "b"),), (), kept]
            self.never_gives(Program, PARAMETERS, values, NoStep, {"name": name})
        self.never_gives(Program, PARAMETERS, [(), (), (), ("a",)], NoStep, {"name": "a"})

    def test_all_of_at_most_three_pairs(self):
        pairs = sorted(product("abz", repeat=2)) + [("b", "c"), ("c", "a"), ("c", "b")]
        for count in range(4):
            for some in product(pairs, repeat=count):
                place = first_bad(ABC, some)
                for cut in range(count + 1):
                    if place is None:
                        program = Program(ABC, some[:cut], some[cut:])
                        self.assertEqual(program.reads, tuple(sorted(set(some[:cut]))))
                        self.assertEqual(program.waits, tuple(sorted(set(some[cut:]))))
                    else:
                        self.refuses(BadPair, {"place": place}, Program, ABC, some[:cut], some[cut:])


class TestSizeAndNames(Case):

    def test_len(self):
        for count in range(4):
            self.same(len(Program(ABC[:count])), count)
        self.same(len(Program.of(MIXED)), 6)

    def test_in(self):
        program = Program(("a", "mix"), (("a", "mix"),))
        for name, want in (("a", True), ("mix", True), ("b", False), ("m", False), ("mixx", False)):
            self.same(name in program, want)
            self.same(name not in program, not want)
        self.same("a" in Program(()), False)

    def test_iteration(self):
        for program in (Program(()), Program(ABC)):
            self.assertRaises(TypeError, iter, program)
            self.assertRaises(TypeError, list, program)

    def test_equal_and_unequal(self):
        texts = ("- | - | - | -", "a b | - | - | -", "a b | a b | - | -", "a b | - | a b | -",
                 "a b | a b | a b | -", "a b | - | - | a", "a b | - | - | b", "a b c | - | - | -",
                 "a b | b a | - | -", "a c | - | - | -")
        for one, other in product(texts, repeat=2):
            self.same(Program.of(one) == Program.of(other), one == other)
            self.same(Program.of(one) != Program.of(other), one != other)

    def test_equal_whatever_the_order_of_the_pairs(self):
        one = Program(ABC, (("a", "b"), ("b", "c")), (), ("a", "c"))
        other = Program(list(ABC), [["b", "c"], ["a", "b"], ["b", "c"]], [], ["c", "a"])
        self.same((one == other, one != other), (True, False))

    def test_things_that_are_no_program(self):
        program = Program(("a",))
        for thing in (None, 0, "a", program.text, ("a",), ["a"], told(program), {}, object(), Program):
            self.same((program == thing, program != thing), (False, True))
            self.same((thing == program, thing != program), (False, True))
        self.same((Program(()) == (), Program(()) != ()), (False, True))


class TestText(Case):

    def test_there_and_back(self):
        for text in (MIXED, "- | - | - | -", "a | - | - | a", "a b | b a | - | -", "a b | a b | a b | a b",
                     "aaaaaaaa zzzzzzzz | zzzzzzzz aaaaaaaa | - | aaaaaaaa zzzzzzzz"):
            for place, name in ways(["text"], [text]):
                self.same(Program.of(*place, **name).text, text)
                self.assertIsInstance(Program.of(*place, **name), Program)
            self.same(Program(*told(Program.of(text))) == Program.of(text), True)

    def test_what_is_read(self):
        want = (("a", "b", "c", "d", "e", "f"), (("a", "b"), ("c", "d")), (("a", "d"), ("b", "c")), ("d", "f"))
        self.same(told(Program.of(MIXED)), want)

    def test_many_steps(self):
        steps = tuple("abcdefghijklmnopqrstuvwxyz")
        reads = tuple(zip(steps, steps[1:]))
        program = Program(steps, reads, (("a", "z"),), steps)
        self.same(told(Program.of(program.text)), (steps, reads, (("a", "z"),), steps))
        self.same(surely_ended(program, "a", "z"), True)
        self.same(len(all_ends(program)), 325)

    def test_wrong_texts(self):
        for text, piece in WRONG_TEXTS.items():
            self.never_gives(Program.of, ["text"], [text], BadText, {"piece": piece})

    def test_parts_of_all_kinds(self):
        parts = ("-", "a", "a b", "a b; b a", "b a", "a z", "", "b", "a  b")
        for count in range(1, 5):
            for some in product(parts, repeat=count):
                self.part(some)
        for more in product(("-", "a b", "b a"), repeat=4):
            self.part((*more, "-"))
            self.part((*more, "", "x"))

    def part(self, some):
        text = " | ".join(some)
        wrong = first_wrong_part(some)
        if wrong is None:
            self.assertEqual(Program.of(text).text, text)
        else:
            self.refuses(BadText, {"piece": wrong}, Program.of, text)


WRONG_TEXTS = {
    "": 0, " ": 0, "\n": 0, "|": 0, " | ": 0, " |  |  | ": 0, "a": 1, "-": 1, "- | -": 2, "- | - | -": 3,
    "a b | - | -": 3, "a b | a b": 2, "- | - | - | - | -": 4, "a | - | - | - | a": 4, "- | - | - | - | ": 4,
    "- | - | - | - | - | -": 4, "a | - | - | a | b a | ?": 4,
    " | - | - | -": 0, "a |  | - | -": 1, "a | - |  | -": 2, "a | - | - | ": 3, "a | ": 1, "a | - | ": 2,
    "b a | - | - | -": 0, "a a | - | - | -": 0, "A | - | - | -": 0, "abcdefghi | - | - | -": 0,
    " a | - | - | -": 0, "a  | - | - | -": 0, "a  b | - | - | -": 0, "a-b | - | - | -": 0, "a b; c | - | - | -": 0,
    "a b|- | - | -": 0, "a b | -| - | -": 1, "a b | - |- | -": 1, "a b | - | -|-": 2, "a b | - | - | -\n": 3,
    "\na b | - | - | -": 0, "a b | - | - | - ": 3, "a b | - | - |": 2, "a b | - | - | - |": 3,
    "a b c | b c; a b | - | -": 1, "a b c | a b; a b | - | -": 1, "a b | a b;  | - | -": 1, "a b | a | - | -": 1,
    "a b | a  b | - | -": 1, "a b | a a | - | -": 1, "a b | a z | - | -": 1, "a b | z b | - | -": 1,
    "a b | a b; b a | - | -": 1, "a b c | a b; b c; c a | - | -": 1, "a b | a b b | - | -": 1,
    "a b c | - | b c; a b | -": 2, "a b c | - | a b; a b | -": 2, "a b | - | a b; b a | -": 2, "a b | - | a z | -": 2,
    "a b | - | z a | -": 2, "a b | - | b b | -": 2, "a b | b a | a b | -": 2, "a b c | a b; b c | c a | -": 2,
    "a b c | a b; b c | c a": 2, "a b | a b | b a | z | - | -": 2,
    "a b | - | - | b a": 3, "a b | - | - | a a": 3, "a b | - | - | z": 3, "a b | - | - | a z": 3,
    "a b | - | - | a  b": 3, "a b | - | - | A": 3, "- | - | - | a": 3, "a b | - | - | - a": 3,
    "a b | - | - | z | -": 3, "b a | a": 0, "b a | - | - | - | -": 0, "a b | b b": 1, "a b | b b | - | - | -": 1,
    "a b | a z | b b | z": 1, "- | a b | - | -": 1, "- | - | a b | -": 2,
}


def first_wrong_part(parts):
    """The number BadText tells of these parts, found without the program; None if they are right."""
    steps, pairs = [], []
    for piece, part in enumerate(parts[:4]):
        items = [] if part == "-" else part.split("; " if piece in (1, 2) else " ")
        if items != sorted(set(items)) or not all(items):
            return piece
        if piece == 0:
            steps = items
        elif piece == 3 and not set(items) <= set(steps):
            return piece
        elif piece in (1, 2):
            split = [tuple(item.split(" ")) for item in items]
            pairs = pairs + split
            if any(len(pair) != 2 for pair in split) or first_bad(steps, pairs) is not None:
                return piece
    return min(len(parts), 4) if len(parts) != 4 else None


class TestChains(Case):

    def test_through_several_pairs(self):
        program = Program.of(MIXED)
        ends = (("a", "b"), ("a", "c"), ("a", "d"), ("b", "c"), ("b", "d"), ("c", "d"))
        self.gives(all_ends, ["program"], [program], ends)
        for one, other in product(program.steps, repeat=2):
            self.gives(surely_ended, ["program", "one", "other"], [program, one, other], (one, other) in ends)

    def test_no_pairs(self):
        self.gives(all_ends, ["program"], [Program(())], ())
        self.gives(all_ends, ["program"], [Program(ABC, (), (), ABC)], ())

    def test_all_programs_of_four_steps(self):
        # The names run against the chains, so that no order of names helps.
        forward = list(combinations("cadb", 2))
        for kinds in product(range(4), repeat=6):
            reads = [pair for pair, kind in zip(forward, kinds) if kind in (1, 3)]
            waits = [pair for pair, kind in zip(forward, kinds) if kind in (2, 3)]
            program = Program(tuple("abcd"), reads, waits)
            found = chains("abcd", sorted(set(reads + waits)))
            self.assertEqual(all_ends(program), tuple(sorted(found)))
            one, other = forward[sum(kinds) % 6]
            self.same(surely_ended(program, one, other), (one, other) in found)
            self.same(surely_ended(program, other, one), False)

    def test_strange_names(self):
        program = Program.of("a b | a b | - | -")
        for one, other, name in (("a", "z", "z"), ("z", "a", "z"), ("z", "y", "z"), ("y", "z", "y"), ("z", "z", "z")):
            self.never_gives(surely_ended, ["program", "one", "other"], [program, one, other], NoStep, {"name": name})

    def test_readers(self):
        program = Program.of("a b c d | a d; b d; c a; c b; c d | a b; b d | b")
        for value, want in (("a", ("d",)), ("b", ("d",)), ("c", ("a", "b", "d")), ("d", ())):
            self.gives(readers, ["program", "value"], [program, value], want)
        self.gives(readers, ["program", "value"], [Program.of("a b | - | a b | -"), "a"], ())
        self.never_gives(readers, ["program", "value"], [program, "z"], NoStep, {"name": "z"})
        self.never_gives(readers, ["program", "value"], [Program(()), "a"], NoStep, {"name": "a"})


class TestOtherPrograms(Case):
    """with_wait, without_wait and with_kept, and that the first Program stays as it is."""

    pair = ["program", "one", "other"]

    def becomes(self, call, names, text, steps, want):
        program = Program.of(text)
        self.gives(call, names, [program, *steps], Program.of(want))
        self.same(program.text, text)

    def fails(self, call, names, text, steps, error, told):
        program = Program.of(text)
        self.never_gives(call, names, [program, *steps], error, told)
        self.same(program.text, text)

    def test_with_wait(self):
        self.becomes(with_wait, self.pair, "a b | - | - | b", "ab", "a b | - | a b | b")
        self.becomes(with_wait, self.pair, "a b | - | - | b", "ba", "a b | - | b a | b")
        self.becomes(with_wait, self.pair, "a b c | a b | b c | a", "ac", "a b c | a b | a c; b c | a")
        self.becomes(with_wait, self.pair, "a b c | - | b c | -", "ab", "a b c | - | a b; b c | -")

    def test_with_a_wait_that_is_there(self):
        self.becomes(with_wait, self.pair, "a b c | - | a b; b c | -", "ab", "a b c | - | a b; b c | -")
        self.becomes(with_wait, self.pair, "a b | a b | - | -", "ab", "a b | a b | a b | -")

    def test_with_wait_of_one_step(self):
        self.fails(with_wait, self.pair, "a b | - | - | -", "aa", BadPair, {"place": 0})
        self.fails(with_wait, self.pair, "a b c | a b; a c | b c | -", "bb", BadPair, {"place": 3})

    def test_with_wait_that_closes_a_round(self):
        self.fails(with_wait, self.pair, "a b | a b | - | -", "ba", BadPair, {"place": 1})
        self.fails(with_wait, self.pair, "a b | - | a b | -", "ba", BadPair, {"place": 1})
        self.fails(with_wait, self.pair, "a b | a b | a b | -", "ba", BadPair, {"place": 2})
        self.fails(with_wait, self.pair, "a b c d | a b; c d | b c | -", "da", BadPair, {"place": 3})
        self.fails(with_wait, self.pair, "a b c d | a b; c d | a c; b c | -", "ca", BadPair, {"place": 4})

    def test_without_wait(self):
        self.becomes(without_wait, self.pair, "a b c | - | a b; b c | a", "ab", "a b c | - | b c | a")
        self.becomes(without_wait, self.pair, "a b | a b | a b | -", "ab", "a b | a b | - | -")

    def test_without_a_wait_that_is_not_there(self):
        for text in ("a b | - | - | -", "a b | a b | - | a", "a b | b a | b a | -"):
            self.becomes(without_wait, self.pair, text, "ab", text)
        self.becomes(without_wait, self.pair, "a b | - | a b | -", "ba", "a b | - | a b | -")
        self.becomes(without_wait, self.pair, "a b | - | a b | -", "aa", "a b | - | a b | -")

    def test_with_kept(self):
        kept = ["program", "value"]
        self.becomes(with_kept, kept, "a b | a b | - | b", "a", "a b | a b | - | a b")
        self.becomes(with_kept, kept, "a b | - | b a | -", "b", "a b | - | b a | b")
        self.becomes(with_kept, kept, "a b | a b | - | a b", "b", "a b | a b | - | a b")

    def test_strange_names(self):
        for steps, name in (("az", "z"), ("za", "z"), ("zy", "z"), ("yz", "y"), ("zz", "z")):
            for call in (with_wait, without_wait):
                self.fails(call, self.pair, "a b | a b | - | -", steps, NoStep, {"name": name})
        self.fails(with_kept, ["program", "value"], "a b | - | - | a", "z", NoStep, {"name": "z"})

"""[11], and what [2] and [3] say of it: LINES and clean LAYOUTS."""

from itertools import permutations, product

from seatsahead import errors, lines as module, programs
from seatsahead.errors import NoStep
from seatsahead.lines import (
    all_clean, barring, forced, is_barring, is_two_lines, layout_of_lines, lines_of_layout, two_lines)
from seatsahead.programs import Program
from tests.cases import Case
from tests.walks import (
    APART, FORKED, FREE, TEN, TWINS, few_programs, is_dead, layouts_by_walk, meets, small_programs, ten_programs)

EXAMPLES = '''
    >>> house = Program.of("a b c d | a b; a c; b d; c d | - | -")
    >>> two_lines(house) is None, is_two_lines(house, two_lines(house)), is_two_lines(house, (("a", "b", "c", "d"), ("a", "c", "b", "d"))), barring(house), len(all_clean(house))
    (False, True, False, None, 6)
    >>> layout_of_lines(house, (("b", "a", "d", "c"), ("c", "a", "d", "b"))), is_two_lines(house, (("b", "a", "d", "c"), ("c", "a", "d", "b"))), lines_of_layout(house, (("a", "c"), ("b", "a"), ("b", "c"), ("b", "d"), ("d", "c")))
    ((('a', 'c'), ('b', 'a'), ('b', 'c'), ('b', 'd'), ('d', 'c')), True, (('b', 'a', 'd', 'c'), ('c', 'a', 'd', 'b')))
    >>> forced(house, "b", "a"), forced(house, "a", "d"), forced(house, "b", "c"), lines_of_layout(house, (("a", "b"), ("a", "c"), ("b", "c"), ("b", "d"), ("c", "d")))
    ((('b', 'a'), ('b', 'd')), (), (('b', 'c'),), None)
    >>> is_barring(house, (("b", "a"), ("b", "d"))), two_lines(Program(())), all_clean(Program(())), all_clean(Program.of("a b | - | - | -"))
    (False, ((), ()), [()], [(('a', 'b'),), (('b', 'a'),)])
    >>> forced(house, "a", "z")
    raises NoStep(name='z')
'''
HOUSE = "a b c d | a b; a c; b d; c d | - | -"
# Programs without LINES, and with LINES but with forcing all around.
TWO_TWINS = "a b c x y z | - | a y; a z; b x; b z; c x; c y | b"
PENTAGON = "a b c d e f | - | a d; a e; b e; b f; c f | -"


def all_programs():
    texts = (FORKED, APART, TWINS, TWO_TWINS, PENTAGON, "a b c d e | a b; b c; c d; d e | - | -",
             "a b c d e f | - | a d; a e; b d; b f; c e; c f | -", "a b c d e f | a d; b d; b e; c e | - | f")
    return [*small_programs(), *map(Program.of, texts)]


def is_clean(program, layout):
    """Whether the LAYOUT goes on: x below y and y below z makes x and z meet."""
    return all(meets(program, low, top) for low, high in layout for under, top in layout if under == high)


def clean_by_walk(program):
    return [layout for layout in layouts_by_walk(program) if is_clean(program, layout)]


def dead_by(program):
    return {pair for pair in permutations(program.steps, 2) if is_dead(program, *pair)}


def ahead_in(line):
    return {(one, other) for place, one in enumerate(line) for other in line[place + 1:]}


def lines_by(program, layout):
    """The LINES of a clean LAYOUT, found among all."""
    dead, below, above = dead_by(program), set(layout), {(high, low) for low, high in layout}
    first = [line for line in permutations(program.steps) if ahead_in(line) == dead | below]
    second = [line for line in permutations(program.steps) if ahead_in(line) == dead | above]
    return [(one, other) for one in first for other in second]


def all_lines(program):
    """All LINES of the Program."""
    dead, lines = dead_by(program), list(permutations(program.steps))
    return [(one, other) for one in lines for other in lines if ahead_in(one) & ahead_in(other) == dead]


def met_pairs(program):
    return [pair for pair in permutations(program.steps, 2) if meets(program, *pair)]


def forces(program, pair):
    """The pairs that this pair forces, as the document says it."""
    x, y = pair
    found = [(z, y) for z in program.steps if meets(program, z, y) and not meets(program, z, x)]
    return found + [(x, z) for z in program.steps if meets(program, x, z) and not meets(program, y, z)]


def forced_by(program, pair):
    """The pairs to which a chain leads from this one, gone through step by step."""
    found = [pair]
    for one in found:
        found += [other for other in forces(program, one) if other not in found]
    return tuple(sorted(set(found)))


class TestLines(Case):

    def test_the_examples(self):
        self.examples(EXAMPLES, {**vars(errors), **vars(programs), **vars(module)})

    def test_told_exactly_if_there_is_a_clean_layout(self):
        for program in all_programs():
            told = two_lines(program)
            self.same(told is not None, clean_by_walk(program) != [])
            self.same(is_two_lines(program, told), told is not None)
            if told is not None:
                first, second = told
                self.same((sorted(first), sorted(second)), (list(program.steps), list(program.steps)))
                self.assertEqual(ahead_in(first) & ahead_in(second), dead_by(program))

    def test_there_and_back_over_all_clean_layouts(self):
        for program in all_programs()[::3] + [Program.of(text) for text in (FORKED, APART)]:
            for layout in layouts_by_walk(program):
                lines = lines_of_layout(program, layout)
                self.same(lines is not None, is_clean(program, layout))
                if lines is not None:
                    self.assertEqual([lines], lines_by(program, layout))
                    self.same(layout_of_lines(program, lines), layout)
                    self.same(is_two_lines(program, lines), True)

    def test_over_all_lines(self):
        for program in few_programs():
            known = all_lines(program)
            self.assertEqual(len(known), len(clean_by_walk(program)))
            for lines in known:
                layout = layout_of_lines(program, lines)
                self.assertIn(layout, clean_by_walk(program))
                self.same(lines_of_layout(program, layout), lines)

    def test_in_each_way(self):
        for program in few_programs():
            self.asked(two_lines, program)
            for layout in layouts_by_walk(program)[::5]:
                want = lines_by(program, layout)[0] if is_clean(program, layout) else None
                self.answers(want, lines_of_layout, program, layout)
            for lines in all_lines(program)[::5]:
                self.assertIn(self.asked(layout_of_lines, program, lines), clean_by_walk(program))

    def test_things(self):
        for program in few_programs():
            lines = list(permutations(program.steps))
            self.tells(is_two_lines, [program], all_lines(program), list(product(lines, repeat=2)))

    def test_all_clean(self):
        for program in all_programs():
            self.same(all_clean(program), clean_by_walk(program))
        for program in [*few_programs(), Program.of(TWINS)]:
            self.answers(clean_by_walk(program), all_clean, program)
        self.same(len(all_clean(Program.of(FREE))), 720)

    def test_a_program_without_steps(self):
        program = Program(())
        self.answers(((), ()), two_lines, program)
        self.answers(None, barring, program)
        self.answers([()], all_clean, program)
        self.answers((), layout_of_lines, program, ((), ()))
        self.answers(((), ()), lines_of_layout, program, ())
        self.tells(is_two_lines, [program], [((), ())])
        self.tells(is_barring, [program], [])


class TestForcing(Case):

    def test_against_chains_gone_through_step_by_step(self):
        for program in all_programs():
            met = met_pairs(program)
            for one, other in product(program.steps, repeat=2):
                want = forced_by(program, (one, other)) if (one, other) in met else ()
                self.same(forced(program, one, other), want)

    def test_in_each_way(self):
        for program in [*few_programs(), Program.of(TWINS)]:
            met = met_pairs(program)
            for one, other in product(program.steps, repeat=2):
                want = forced_by(program, (one, other)) if (one, other) in met else ()
                self.answers(want, forced, program, one, other)

    def test_what_a_clean_layout_has(self):
        for program in all_programs()[::5]:
            for layout in clean_by_walk(program):
                for one, other in layout:
                    self.assertLessEqual(set(forced(program, one, other)), set(layout))

    def test_the_first_strange_name(self):
        program = Program.of(HOUSE)
        for one, other, name in (("a", "z", "z"), ("z", "a", "z"), ("y", "z", "y"), ("z", "y", "z"), ("z", "z", "z")):
            self.never(NoStep, {"name": name}, forced, program, one, other)
        self.never(NoStep, {"name": "a"}, forced, Program(()), "a", "b")


class TestBarring(Case):

    def is_right(self, program, chain):
        met = met_pairs(program)
        steps = all(after in forces(program, pair) for pair, after in zip(chain, chain[1:]))
        return len(chain) > 0 and set(chain) <= set(met) and steps and chain[-1] == chain[0][::-1]

    def test_told_only_if_there_are_no_lines(self):
        for program in all_programs():
            told = barring(program)
            turned = any(pair[::-1] in forced_by(program, pair) for pair in met_pairs(program))
            self.same(told is not None, turned)
            self.same(is_barring(program, told), told is not None)
            self.same(two_lines(program) is None, turned)
            if told is not None:
                self.same(self.is_right(program, told), True)
                self.same(clean_by_walk(program), [])

    def test_programs_with_and_without(self):
        for text, want in ((TWINS, True), (TWO_TWINS, False), (HOUSE, False), (FREE, False)):
            program = Program.of(text)
            self.same(self.asked(barring, program) is not None, want)
            self.same(self.asked(two_lines, program) is None, want)

    def test_things(self):
        for program in [*few_programs()[::3], Program.of(TWO_TWINS)]:
            met = met_pairs(program)
            others = [chain for many in range(1, 4) for chain in product(met[:8], repeat=many)]
            right = [chain for chain in others if self.is_right(program, chain)]
            self.tells(is_barring, [program], right, others)

    def test_things_where_there_are_some(self):
        program = Program.of(TWINS)
        known = []
        for pair in met_pairs(program):
            known += self.chains(program, pair, 7)
        self.assertNotEqual(known, [])
        for chain in known:
            self.same(is_barring(program, chain), True)
            self.same(is_barring(program, chain[:-1]), False)
            self.same(is_barring(program, chain[1:]), False)
            # A chain backwards is one, too: forcing goes both ways. So is a longer way.
            self.same(is_barring(program, chain[::-1]), self.is_right(program, chain[::-1]))
            longer = (chain[0], chain[1], *chain)
            self.same(is_barring(program, longer), self.is_right(program, longer))
            # No pair forces itself.
            self.same(is_barring(program, chain[:1] + chain), False)
            self.same(is_barring(program, chain + chain[-1:]), False)
        for chain in known[::40]:
            self.by_names(is_barring, [program], chain)
            for place, pair in enumerate(chain):
                for other in (pair[::-1], list(pair), (pair[0],), (*pair, "a"), (pair[0], "q"), (pair[0], 1), None,
                              (pair[0], pair[0]), "ab", True, (pair,)):
                    thing = (*chain[:place], other, *chain[place + 1:])
                    pairs = all(isinstance(item, tuple) and item in met_pairs(program) for item in thing)
                    self.says(is_barring, [program], thing, pairs and self.is_right(program, thing))
            for thing in (list(chain), (chain,), (*chain, ()), chain + chain):
                self.says(is_barring, [program], thing, False)

    def chains(self, program, start, most):
        """The chains of at most so many pairs from this pair to the same one turned about."""
        chains = found = [(start,)]
        for _ in range(most - 1):
            chains = [(*chain, pair) for chain in chains for pair in forces(program, chain[-1]) if pair not in chain]
            found = found + chains
        return [chain for chain in found if chain[-1] == start[::-1]]


class TestTenSteps(Case):

    def test_each_function(self):
        for program in ten_programs():
            told, chain = two_lines(program), barring(program)
            self.same((told is None, chain is None), (chain is not None, told is not None))
            self.same(is_two_lines(program, told), told is not None)
            self.same(is_barring(program, chain), chain is not None)
            self.same(forced(program, "a", "a"), ())
            if told is not None:
                layout = layout_of_lines(program, told)
                self.same(lines_of_layout(program, layout), told)
                for pair in layout[:3]:
                    self.assertLessEqual(set(forced(program, *pair)), set(layout))

    def test_a_crown_has_no_lines(self):
        crown = Program(tuple(TEN), (), [(one, other) for one, other in product("abcde", "fghij")
                                         if ord(other) - ord(one) != 5])
        self.same((two_lines(crown), is_barring(crown, barring(crown))), (None, True))

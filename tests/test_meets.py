"""[6], and what [2] and [3] say of it: values that can meet."""

from itertools import permutations, product

from seatsahead import errors, meets as module, programs
from seatsahead.errors import NoStep
from seatsahead.meets import (
    all_dead, all_meets, can_meet, chains_for, dead_ahead, is_chains_for, is_run_to_meet, run_to_meet)
from seatsahead.programs import Program
from tests.cases import Case
from tests.walks import (
    APART, FORKED, TWINS, beginnings, behind, few_programs, is_dead, lives_by, meets, small_programs, ten_programs)

EXAMPLES = '''
    >>> program = Program.of("a b c d | a b; a c; b d; c d | - | -")
    >>> dead_ahead(program, "a", "d"), dead_ahead(program, "a", "b"), can_meet(program, "a", "d"), can_meet(program, "b", "c"), can_meet(program, "d", "d"), all_dead(program)
    (True, False, False, True, True, (('a', 'd'),))
    >>> all_meets(program), all_meets(Program.of("a b | a b | - | -")), all_dead(Program.of("a b | - | a b | -")), all_dead(Program.of("a b | - | a b | a"))
    ((('a', 'b'), ('a', 'c'), ('b', 'c'), ('b', 'd'), ('c', 'd')), (('a', 'b'),), (('a', 'b'),), ())
    >>> chains_for(program, "b", "d"), is_chains_for(program, "a", "d", (("a", "c", "d"), ("b", "d"), ("c", "d"))), is_chains_for(program, "a", "d", (("a", "c", "d"), ("b", "d"))), is_chains_for(program, "a", "d", chains_for(program, "a", "d"))
    (None, True, False, True)
    >>> run_to_meet(program, "a", "d"), is_run_to_meet(program, "a", "b", (("begin", "a"), ("end", "a"), ("begin", "b"))), is_run_to_meet(program, "a", "b", (("begin", "a"), ("begin", "b"))), is_run_to_meet(program, "b", "c", run_to_meet(program, "c", "b"))
    (None, True, False, True)
    >>> can_meet(program, "a", "x")
    raises NoStep(name='x')
'''
PAIRS = (dead_ahead, can_meet, chains_for, run_to_meet)
THINGS = (is_chains_for, is_run_to_meet)


def all_chains(program, start, other):
    """All chains from start to other, found without the program."""
    if start == other:
        return [(other,)]
    steps = {after for one, after in program.reads + program.waits if one == start}
    return [(start, *rest) for step in sorted(steps) for rest in all_chains(program, step, other)]


def all_chains_for(program, one, other):
    """All things that show that one is dead ahead of other, if it is not kept."""
    starts = sorted([one] + [reader for value, reader in program.reads if value == one])
    if one in program.kept or other in starts:
        return []
    return list(product(*[all_chains(program, start, other) for start in starts]))


class TestMeeting(Case):

    def test_the_examples(self):
        self.examples(EXAMPLES, {**vars(errors), **vars(programs), **vars(module)})

    def test_against_all_moments_of_all_runs(self):
        for program in [*small_programs(), Program.of(FORKED), Program.of(APART), Program.of(TWINS)]:
            pairs = list(product(program.steps, repeat=2))
            for one, other in pairs:
                self.same(can_meet(program, one, other), meets(program, one, other))
                self.same(dead_ahead(program, one, other), is_dead(program, one, other))
            self.same(all_dead(program), tuple(pair for pair in pairs if is_dead(program, *pair)))
            self.same(all_meets(program), tuple(pair for pair in pairs if pair[0] < pair[1] and meets(program, *pair)))

    def test_two_values_never_meet_exactly_if_one_is_dead_ahead_of_the_other_one(self):
        for program in small_programs():
            for one, other in permutations(program.steps, 2):
                dead = dead_ahead(program, one, other) or dead_ahead(program, other, one)
                self.same(can_meet(program, one, other), not dead)
            for one in program.steps:
                self.same((can_meet(program, one, one), dead_ahead(program, one, one)), (True, False))

    def test_a_kept_value_is_dead_ahead_of_none(self):
        for program in small_programs():
            for one, _ in all_dead(program):
                self.assertNotIn(one, program.kept)

    def test_what_readers_do(self):
        # b reads a and is ahead of c; d reads a and is not.
        for text, want in (("a b c d | a b | b c | -", True), ("a b c d | a b; a d | b c | -", False),
                           ("a b c d | a b; a d | b c; d c | -", True), ("a b c d | a b; a c | b c | -", False),
                           ("a b c d | a b | a c | -", False), ("a b c d | a b | b c | a", False),
                           ("a b c d | a b | b c | c", True), ("a b c d | - | a d; d c | -", True)):
            program = Program.of(text)
            self.answers(want, dead_ahead, program, "a", "c")
            self.answers(not want, can_meet, program, "a", "c")
            self.answers(False, dead_ahead, program, "c", "a")
            self.answers(not want, can_meet, program, "c", "a")

    def test_in_each_way(self):
        for program in few_programs():
            pairs = list(product(program.steps, repeat=2))
            self.answers(tuple(pair for pair in pairs if is_dead(program, *pair)), all_dead, program)
            self.answers(tuple(pair for pair in pairs if pair[0] < pair[1] and meets(program, *pair)),
                         all_meets, program)
            for one, other in pairs:
                self.answers(is_dead(program, one, other), dead_ahead, program, one, other)
                self.answers(meets(program, one, other), can_meet, program, one, other)


class TestNames(Case):

    def test_the_first_strange_name(self):
        programs_to_try = [Program(()), Program.of("a b | a b | - | -"), Program.of("a b | - | a b | a b")]
        for program in programs_to_try:
            for one, other, name in (("a", "z", "z"), ("z", "a", "z"), ("y", "z", "y"), ("z", "y", "z"), ("z", "z", "z")):
                name = one if one not in program else name
                for call in PAIRS:
                    self.never(NoStep, {"name": name}, call, program, one, other)
                for call in THINGS:
                    for thing in ((), None, (("a", "b"),), (("begin", "a"),), [[]], 7):
                        self.never(NoStep, {"name": name}, call, program, one, other, thing)


class TestChains(Case):

    def shows(self, program, one, other):
        chains = self.asked(chains_for, program, one, other)
        if is_dead(program, one, other):
            self.assertIn(chains, all_chains_for(program, one, other))
            self.same(chains, tuple(sorted(chains)))
            self.same(is_chains_for(program, one, other, chains), True)
        else:
            self.same(chains, None)

    def test_told_exactly_if_dead_ahead(self):
        for program in [*few_programs(), Program.of(FORKED), Program.of(APART), Program.of(TWINS)]:
            for one, other in product(program.steps, repeat=2):
                self.shows(program, one, other)

    def test_in_all_small_programs(self):
        for program in small_programs():
            for one, other in product(program.steps, repeat=2):
                right = all_chains_for(program, one, other)
                self.same(chains_for(program, one, other) in right, is_dead(program, one, other))
                for thing in right:
                    self.same(is_chains_for(program, one, other, thing), True)

    def test_things(self):
        texts = ("a b c d e f | a b; a c; b d; c d | c e; d e; d f; e f | f", "a b c | - | a b; a c; b c | -",
                 "a b c d | a b; b c | a b; c d | c", "a b | - | a b | a")
        for program in map(Program.of, texts):
            for one, other in product(program.steps, repeat=2):
                wrong = [(chain,) for chain in all_chains(program, one, other)]
                wrong += [thing for two in product(program.steps, repeat=2) for thing in all_chains_for(program, *two)]
                self.tells(is_chains_for, [program, one, other], all_chains_for(program, one, other), wrong)


class TestBeginnings(Case):

    def test_told_exactly_if_both_can_meet(self):
        for program in [*few_programs(), Program.of(FORKED), Program.of(APART), Program.of(TWINS)]:
            for one, other in product(program.steps, repeat=2):
                self.shows(program, one, other, self.asked(run_to_meet, program, one, other))

    def test_in_all_small_programs(self):
        for program in small_programs():
            for one, other in product(program.steps, repeat=2):
                self.shows(program, one, other, run_to_meet(program, one, other))

    def shows(self, program, one, other, deeds):
        self.same(deeds is not None, meets(program, one, other))
        if deeds is not None:
            self.same(is_run_to_meet(program, one, other, deeds), True)
            self.assertLessEqual({one, other}, set(lives_by(program, *behind(program, deeds))))

    def test_things(self):
        for program in few_programs()[2::4]:
            known = beginnings(program)
            for one, other in list(product(program.steps, repeat=2))[::3]:
                right = [deeds for deeds, begun, ended in known
                         if {one, other} <= set(lives_by(program, begun, ended))]
                self.tells(is_run_to_meet, [program, one, other], right, [deeds for deeds, _, _ in known])


class TestTenSteps(Case):

    def test_each_function(self):
        for program in ten_programs():
            pairs = list(product(program.steps, repeat=2))
            dead = {pair for pair in pairs if is_dead(program, *pair)}
            self.same(all_dead(program), tuple(sorted(dead)))
            self.same(all_meets(program), tuple(
                (one, other) for one, other in pairs
                if one < other and (one, other) not in dead and (other, one) not in dead))
            for one, other in pairs[::7]:
                never = (one, other) in dead or (other, one) in dead
                self.same(dead_ahead(program, one, other), (one, other) in dead)
                self.same(can_meet(program, one, other), not never)
                chains = chains_for(program, one, other)
                self.same(chains is not None, (one, other) in dead)
                self.same(is_chains_for(program, one, other, chains), (one, other) in dead)
                deeds = run_to_meet(program, one, other)
                self.same(deeds is None, never)
                self.same(is_run_to_meet(program, one, other, deeds), not never)

"""[16], and what [2] and [3] say of it: Programs that are gone through in rounds."""

from itertools import combinations, product

from seatsahead import errors, programs, rounds as module
from seatsahead.errors import BadPair, NoStep
from seatsahead.meets import can_meet
from seatsahead.programs import Program, surely_ended
from seatsahead.rounds import Rounds, are_enough, chain_behind, enough_to, least_copies, meets_behind
from tests.cases import Case
from tests.strange import STRANGE
from tests.walks import TEN, meets

EXAMPLES = '''
    >>> rounds = Rounds(Program.of("make use | make use | - | -"), (), (("use", "make", 2),))
    >>> enough_to(rounds, "make", 7), least_copies(rounds, "make", 7), least_copies(rounds, "make", 1), are_enough(rounds, "use", 2), [meets_behind(rounds, "make", "make", gap) for gap in range(5)]
    ((2, 4, 6), 2, None, True, [True, True, False, True, False])
    >>> chain_behind(rounds, "make", "use", 0), chain_behind(rounds, "make", "use", 1), chain_behind(rounds, "use", "make", 2), meets_behind(rounds, "use", "make", 2), meets_behind(rounds, "make", "use", 2)
    (True, False, True, False, False)
    >>> steady = Rounds(Program.of("make use | make use | - | -"), (("use", "make", 1),))
    >>> enough_to(steady, "make", 4), enough_to(steady, "use", 4), enough_to(Rounds(Program.of("make use | make use | - | -")), "make", 9), enough_to(Rounds(Program.of("a | - | - | a"), (), (("a", "a", 1),)), "a", 3)
    ((1, 2, 3, 4), (1, 2, 3, 4), (), ())
    >>> Rounds(Program.of("a b | a b | - | -"), (("a", "b", 1),), (("a", "a", 0),))
    raises BadPair(place=1)
    >>> are_enough(steady, "mend", 2)
    raises NoStep(name='mend')
'''
LETTERS = "abcdefghijklmnopqrstuvwxyz"
BASES = ("a | - | - | -", "a | - | - | a", "a b | - | - | -", "a b | a b | - | -", "a b | b a | - | -",
         "a b | - | a b | -", "a b | a b | - | b", "a b | a b | a b | a")
MAKE = "make use | make use | - | -"


def triples(steps, gaps):
    return [(one, other, gap) for one in steps for other in steps for gap in gaps]


def small_rounds():
    """Programs of one and two STEPS with up to two triples of gaps 1 and 2."""
    found = []
    for number, text in enumerate(BASES):
        program = Program.of(text)
        every = triples(program.steps, (1, 2))
        found.append(Rounds(program))
        found += [Rounds(program, (triple,)) for triple in every]
        found += [Rounds(program, (), (triple,)) for triple in every]
        found += [Rounds(program, (one,), (other,)) for one, other in list(product(every, repeat=2))[number::9]]
        found += [Rounds(program, pair) for pair in list(combinations(every, 2))[number::7]]
        found += [Rounds(program, (), pair) for pair in list(combinations(every, 2))[number::7]]
    return found


def great_rounds():
    """Programs of three and four STEPS with some triples of all gaps."""
    texts = ("a b c | a b; b c | - | -", "a b c | a c | b c | b", "a b c d | a b; a c; b d; c d | - | -",
             "a b c d | c a | a b; d c | -", "a b c | - | - | -")
    found = []
    for number in range(60):
        program = Program.of(texts[number % len(texts)])
        every = triples(program.steps, range(1, 6))
        reads = [every[(number * 31 + place * 17) % len(every)] for place in range(number % 4)]
        waits = [every[(number * 13 + place * 29) % len(every)] for place in range(number // 4 % 5)]
        found.append(Rounds(program, reads, waits))
    return found


def named(step, at):
    return step + LETTERS[at]


def side_by_side(rounds, many):
    """The Program of so many rounds, the step a of the first one called aa, that of the second one ab, .."""
    base = rounds.program

    def pairs(same, later):
        found = [(named(one, at), named(other, at)) for one, other in same for at in range(many)]
        return found + [(named(one, at), named(other, at + gap)) for one, other, gap in later for at in range(many - gap)]

    steps = sorted(named(step, at) for step in base.steps for at in range(many))
    kept = [named(value, at) for value in base.kept for at in range(many)]
    return Program(steps, pairs(base.reads, rounds.reads_on), pairs(base.waits, rounds.waits_on), kept)


def enough_by(rounds, value, number, many, meet):
    """Whether of so many rounds no two values of one place ever live at one moment."""
    told = side_by_side(rounds, many)
    places = combinations(range(many), 2)
    return not any(meet(told, named(value, one), named(value, other)) for one, other in places
                   if (other - one) % number == 0)


def chains_by_gap(rounds, most):
    """For each gap the pairs (one, other) with a chain from one to other so many rounds later."""
    leads = [set() for _ in range(most + 6)]
    leads[0] |= {*rounds.program.reads, *rounds.program.waits}
    for one, other, gap in [*rounds.reads_on, *rounds.waits_on]:
        leads[gap].add((one, other))
    found = []
    for gap in range(most + 1):
        pairs = set(leads[gap])
        for ahead in range(gap):
            pairs |= {(one, other) for one, near in found[ahead] for far, other in leads[gap - ahead] if near == far}
        # What is added within the last round.
        grown = True
        while grown:
            more = {(one, other) for one, near in pairs for far, other in leads[0] if near == far} - pairs
            pairs |= more
            grown = bool(more)
        found.append(pairs)
    return found


def dead_by_gap(rounds, chains, one, other, gap):
    """Whether the value of one is dead ahead of that of other so many rounds later, by these chains."""
    users = [(one, 0)] + [(step, 0) for value, step in rounds.program.reads if value == one]
    users += [(step, ahead) for value, step, ahead in rounds.reads_on if value == one]
    if one in rounds.program.kept:
        return False
    return all(0 <= gap - ahead and (step, other) in chains[gap - ahead] for step, ahead in users)


class TestClass(Case):

    def test_the_examples(self):
        self.examples(EXAMPLES, {**vars(errors), **vars(programs), **vars(module)})

    def test_properties(self):
        program = Program.of("a b | a b | - | -")
        reads, waits = (("a", "b", 5), ("a", "a", 1), ("a", "b", 5), ("a", "b", 2)), (("b", "a", 1), ("b", "a", 1))
        want = (("a", "a", 1), ("a", "b", 2), ("a", "b", 5)), (("b", "a", 1),)
        lists = [[list(triple) for triple in some] for some in (reads, waits)]
        for told in (Rounds(program, reads, waits), Rounds(program, *lists), Rounds(program, reads[::-1], list(waits)),
                     Rounds(program=program, reads_on=reads, waits_on=waits),
                     Rounds(waits_on=lists[1], program=program, reads_on=lists[0])):
            self.assertEqual(told.program, program)
            self.same((told.reads_on, told.waits_on), want)
        self.same((Rounds(program).reads_on, Rounds(program).waits_on), ((), ()))
        self.same(Rounds(program, waits_on=waits).waits_on, want[1])
        # A triple may be told among both.
        both = Rounds(program, waits, waits)
        self.same((both.reads_on, both.waits_on), (want[1], want[1]))

    def test_nothing_can_be_set(self):
        told = Rounds(Program.of(MAKE))
        for name in ("program", "reads_on", "waits_on"):
            with self.assertRaises(AttributeError):
                setattr(told, name, ())
            self.assertIsInstance(vars(Rounds)[name], property)

    def test_nothing_handed_in_is_kept(self):
        reads, waits = [["a", "b", 1]], [["b", "a", 2]]
        told = Rounds(Program.of("a b | - | - | -"), reads, waits)
        before = enough_to(told, "a", 9)
        reads[0][2] = 4
        reads.append(["a", "a", 1])
        waits.clear()
        self.same((told.reads_on, told.waits_on), ((("a", "b", 1),), (("b", "a", 2),)))
        self.same(enough_to(told, "a", 9), before)
        self.same(reads, [["a", "b", 4], ["a", "a", 1]])

    def test_equal_ones(self):
        program = Program.of(MAKE)
        one = Rounds(program, (("use", "make", 1),), (("use", "make", 2),))
        same = Rounds(Program.of(MAKE), [["use", "make", 1]] * 2, [("use", "make", 2)])
        self.assertIs(one == same, True)
        self.assertIs(one != same, False)
        for other in (Rounds(program), Rounds(program, (("use", "make", 1),)), Rounds(program, (), (("use", "make", 2),)),
                      Rounds(program, (("use", "make", 2),), (("use", "make", 1),)),
                      Rounds(program, (("use", "make", 2),), (("use", "make", 2),)),
                      Rounds(program, (("make", "use", 1),), (("use", "make", 2),)),
                      Rounds(Program.of("make use | - | make use | -"), one.reads_on, one.waits_on),
                      program, one.reads_on, *STRANGE):
            self.assertIs(one == other, False)
            self.assertIs(one != other, True)
            self.assertIs(other == one, False)
        self.assertIs(Rounds(program) == program, False)

    def test_bad_pairs(self):
        program = Program.of("a b | a b | - | -")
        good, bad = ("a", "b", 1), [("a", "z", 1), ("z", "a", 1), ("z", "z", 1), ("", "a", 1), ("a", "b", 0), ("b", "a", 6),
                                    ("a", "b", -1), ("a", "a", 0), ("a", "b", 10 ** 30), ("ab", "b", 1), ("A", "b", 1)]
        for triple in bad:
            for place in range(5):
                reads = ([good] * min(place, 2) + [triple] * (place < 2))[:3]
                waits = [] if place < 2 else [good] * (place - 2) + [triple, good, triple]
                for told in ((tuple(reads), tuple(waits)), ([*map(list, reads)], [*map(list, waits)])):
                    self.refuses(BadPair, {"place": place}, Rounds, program, *told)
                    self.refuses(BadPair, {"place": place}, Rounds, program=program, reads_on=told[0], waits_on=told[1])
        self.refuses(BadPair, {"place": 0}, Rounds, program, (("a", "b", 6),), (("z", "b", 1),))
        self.refuses(BadPair, {"place": 0}, Rounds, Program(()), (), (("a", "a", 1),))
        for gap in range(1, 6):
            for triple in triples("ab", (gap,)):
                self.same(Rounds(program, (triple,), (triple,)).waits_on, (triple,))

    def test_no_number(self):
        for gap in (True, None, "1", (1,)):
            self.refuses(BadPair, {"place": 0}, Rounds, Program.of("a | - | - | -"), (("a", "a", gap),))


class TestSideBySide(Case):

    def test_meets_against_all_beginnings(self):
        for rounds in small_rounds():
            steps = rounds.program.steps
            many = 4 if len(steps) == 2 else 6
            told = side_by_side(rounds, many)
            # The readers of the first round are all there if they come at most so much later.
            for one, other, gap in triples(steps, range(many)):
                want = meets(told, named(one, 0), named(other, gap))
                self.same(meets_behind(rounds, one, other, gap), want)

    def test_chains_against_the_program_of_all_rounds(self):
        for rounds in [*small_rounds(), *great_rounds()]:
            told = side_by_side(rounds, 7)
            for one, other, gap in triples(rounds.program.steps, range(7)):
                want = surely_ended(told, named(one, 0), named(other, gap))
                self.same(chain_behind(rounds, one, other, gap), want)

    def test_meets_against_the_program_of_all_rounds(self):
        for rounds in great_rounds():
            told = side_by_side(rounds, 9)
            for one, other, gap in triples(rounds.program.steps, (0, 1, 2, 5, 8)):
                self.same(meets_behind(rounds, one, other, gap), can_meet(told, named(one, 0), named(other, gap)))

    def test_copies_against_all_beginnings(self):
        for rounds in small_rounds():
            for value in rounds.program.steps:
                for number in (1, 2):
                    many = 4 if len(rounds.program) == 2 else 6
                    self.same(are_enough(rounds, value, number), enough_by(rounds, value, number, many, meets))

    def test_copies_against_the_program_of_all_rounds(self):
        for rounds in great_rounds()[::3]:
            for value in rounds.program.steps:
                want = tuple(number for number in range(1, 7) if enough_by(rounds, value, number, 12, can_meet))
                self.same(enough_to(rounds, value, 6), want)


class TestChains(Case):

    def all_rounds(self):
        yield from great_rounds()
        yield from small_rounds()[::7]
        yield Rounds(Program.of("a | - | - | -"), (("a", "a", 5),), (("a", "a", 3),))
        yield Rounds(Program.of("a b | - | - | -"), (("a", "b", 5), ("b", "a", 4)), (("a", "a", 4), ("b", "b", 5)))

    def test_great_gaps(self):
        for rounds in self.all_rounds():
            chains = chains_by_gap(rounds, 60)
            for one, other, gap in triples(rounds.program.steps, (0, 1, 2, 3, 4, 5, 6, 11, 23, 59, 60)):
                self.same(chain_behind(rounds, one, other, gap), (one, other) in chains[gap])
                dead = dead_by_gap(rounds, chains, one, other, gap)
                dead = dead or gap == 0 and dead_by_gap(rounds, chains, other, one, 0)
                self.same(meets_behind(rounds, one, other, gap), not dead)

    def test_great_numbers(self):
        for rounds in self.all_rounds():
            chains = chains_by_gap(rounds, 60)
            for value in rounds.program.steps:
                want = tuple(number for number in range(1, 61) if dead_by_gap(rounds, chains, value, value, number))
                self.same(enough_to(rounds, value, 60), want)
                for most in (1, 2, 5, 17, 59, 60):
                    some = tuple(number for number in want if number <= most)
                    self.same(enough_to(rounds, value, most), some)
                    self.same(least_copies(rounds, value, most), some[0] if some else None)
                for number in range(1, 61):
                    self.same(are_enough(rounds, value, number), number in want)

    def test_the_sum_of_two_numbers(self):
        for rounds in self.all_rounds():
            for value in rounds.program.steps:
                told = enough_to(rounds, value, 60)
                self.assertEqual([one + other for one, other in product(told, repeat=2)
                                  if one + other <= 60 and one + other not in told], [])

    def test_a_step_is_not_ended_ahead_of_itself(self):
        for rounds in self.all_rounds():
            for step in rounds.program.steps:
                self.same((chain_behind(rounds, step, step, 0), meets_behind(rounds, step, step, 0)), (False, True))

    def test_in_each_way(self):
        for rounds in [*small_rounds()[::19], *great_rounds()[::9]]:
            for one, other in product(rounds.program.steps, repeat=2):
                for gap in (0, 1, 3, 60):
                    self.asked(chain_behind, rounds, one, other, gap)
                    self.asked(meets_behind, rounds, one, other, gap)
            for value in rounds.program.steps:
                for number in (1, 2, 7, 60):
                    self.asked(are_enough, rounds, value, number)
                    self.asked(enough_to, rounds, value, number)
                    self.asked(least_copies, rounds, value, number)

    def test_no_triples(self):
        rounds = Rounds(Program.of("a b | a b | - | -"))
        for one, other, gap in triples("ab", (1, 2, 5, 60)):
            self.same((chain_behind(rounds, one, other, gap), meets_behind(rounds, one, other, gap)), (False, True))
        self.same((enough_to(rounds, "a", 60), least_copies(rounds, "b", 60)), ((), None))
        self.same((chain_behind(rounds, "a", "b", 0), chain_behind(rounds, "b", "a", 0)), (True, False))

    def test_kept_values(self):
        for kept, want in ((("a",), ((), (1, 2, 3))), (("b",), ((1, 2, 3), ())), (("a", "b"), ((), ()))):
            program = Program(("a", "b"), (("a", "b"),), (), kept)
            rounds = Rounds(program, (), (("b", "a", 1),))
            self.same((enough_to(rounds, "a", 3), enough_to(rounds, "b", 3)), want)
            for value in "ab":
                self.same(meets_behind(rounds, value, value, 7), value in kept)

    def test_a_step_that_reads_its_own_value(self):
        # The value lives until the step of the next round has ended, so one copy is not enough; two are.
        rounds = Rounds(Program.of("a | - | - | -"), (("a", "a", 1),))
        self.answers((2, 3, 4, 5), enough_to, rounds, "a", 5)
        self.same([meets_behind(rounds, "a", "a", gap) for gap in range(4)], [True, True, False, False])
        waits = Rounds(Program.of("a | - | - | -"), (), (("a", "a", 1),))
        self.answers((1, 2, 3, 4, 5), enough_to, waits, "a", 5)
        both = Rounds(Program.of("a | - | - | -"), (("a", "a", 3),), (("a", "a", 3),))
        self.answers((6, 9, 12), enough_to, both, "a", 14)

    def test_read_in_later_rounds(self):
        # a is read two rounds later and waited for in the next one.
        rounds = Rounds(Program.of("a b | - | - | -"), (("a", "b", 2),), (("b", "a", 1),))
        self.answers((3, 6, 9), enough_to, rounds, "a", 11)
        # b of the same round may be done while a of it waits to be read, two rounds later.
        self.same([meets_behind(rounds, "a", "b", gap) for gap in range(4)], [True, True, True, True])
        self.same(meets_behind(rounds, "b", "a", 1), False)

    def test_gap_0_is_asked_both_ways(self):
        rounds = Rounds(Program.of("a b | - | a b | -"))
        self.same((meets_behind(rounds, "a", "b", 0), meets_behind(rounds, "b", "a", 0)), (False, False))
        later = Rounds(Program.of("a b | - | a b | -"), (("a", "b", 1),))
        self.same((meets_behind(later, "a", "b", 0), meets_behind(later, "b", "a", 0)), (True, True))


class TestNoStep(Case):

    def test_ahead_of_all_else(self):
        rounds = Rounds(Program.of("a b | a b | - | -"), (("b", "a", 1),))
        for one, other, name in (("z", "a", "z"), ("a", "z", "z"), ("y", "z", "y"), ("z", "z", "z"), ("", "a", ""),
                                 ("ab", "a", "ab")):
            for gap in (0, 1, 60):
                for call in (chain_behind, meets_behind):
                    self.never(NoStep, {"name": name}, call, rounds, one, other, gap)
        for number in (1, 2, 60):
            for call in (are_enough, enough_to, least_copies):
                self.never(NoStep, {"name": "z"}, call, rounds, "z", number)
                self.never(NoStep, {"name": "a"}, call, Rounds(Program(())), "a", number)


class TestTenSteps(Case):

    def all_rounds(self):
        names = tuple(TEN)
        line = tuple(zip(names, names[1:]))
        pairs = tuple(combinations(names, 2))
        yield Rounds(Program(names))
        yield Rounds(Program(names, line), (), (("j", "a", 5),))
        yield Rounds(Program(names, pairs[::3], pairs[::4], ("c",)), triples(names[::3], (1, 5)), triples(names[1::4], (3,)))
        yield Rounds(Program(names, pairs), triples(names, range(1, 6)), triples(names, range(1, 6)))
        yield Rounds(Program(names, line[::2]), [(other, one, 4) for one, other in line], [("a", "j", 1), ("j", "a", 5)])

    def test_each_function(self):
        for rounds in self.all_rounds():
            chains = chains_by_gap(rounds, 60)
            for one, other, gap in triples("abdj", (0, 1, 4, 31, 60)):
                self.same(chain_behind(rounds, one, other, gap), (one, other) in chains[gap])
                dead = dead_by_gap(rounds, chains, one, other, gap)
                dead = dead or gap == 0 and dead_by_gap(rounds, chains, other, one, 0)
                self.same(meets_behind(rounds, one, other, gap), not dead)
            for value in "acj":
                want = tuple(number for number in range(1, 61) if dead_by_gap(rounds, chains, value, value, number))
                self.same(enough_to(rounds, value, 60), want)
                self.same(least_copies(rounds, value, 60), want[0] if want else None)
                self.same(are_enough(rounds, value, 60), 60 in want)

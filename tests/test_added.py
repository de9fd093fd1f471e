"""[17], and what [2] and [3] say of it: waits that are put in."""

from functools import lru_cache
from itertools import combinations, permutations

from seatsahead import added as module, errors, programs
from seatsahead.added import are_rows, fewest_waits, forced_ends, is_idle_wait, parted_by, with_rows
from seatsahead.errors import BadPair, NoStep
from seatsahead.programs import Program, with_kept, with_wait
from tests.cases import Case
from tests.walks import APART, NAMED, ends_of, goes_round, is_dead, meets, program_by, small_programs, ten_programs

EXAMPLES = '''
    >>> program = Program(("a", "b", "c", "d"), (("a", "b"), ("c", "d")))
    >>> are_rows(program, (("a", "c"),)), forced_ends(program, (("a", "c"),)), with_rows(program, (("a", "c"),)).text, fewest_waits(program, (("a", "c"),))
    (False, (('a', 'c'), ('a', 'd'), ('b', 'c'), ('b', 'd')), 'a b c d | a b; c d | b c | -', 1)
    >>> are_rows(with_rows(program, (("a", "c"),)), (("a", "c"), ("b",))), forced_ends(program, (("a", "b"),)), forced_ends(program, (("a", "c"), ("c", "a"))), forced_ends(program, ()), with_rows(program, ()) == program
    (True, None, None, (), True)
    >>> apart = Program(("a", "b", "c", "d"))
    >>> forced_ends(apart, (("a", "c"), ("a", "d"), ("b", "c"), ("b", "d"))), with_rows(apart, (("a", "c"), ("a", "d"), ("b", "c"), ("b", "d"))).waits, fewest_waits(apart, (("a", "c"), ("a", "d"), ("b", "c"), ("b", "d")))
    ((('a', 'c'), ('a', 'd'), ('b', 'c'), ('b', 'd')), (('a', 'c'), ('a', 'd'), ('b', 'c'), ('b', 'd')), 3)
    >>> parted_by(program, "b", "c"), is_idle_wait(program, "b", "c"), parted_by(program, "a", "c"), is_idle_wait(program, "a", "c"), is_idle_wait(program, "a", "b"), fewest_waits(with_kept(program, "a"), (("a", "c"),))
    ((('a', 'c'), ('a', 'd'), ('b', 'c'), ('b', 'd')), False, (), True, True, None)
    >>> forced_ends(program, (("a", "z"),))
    raises NoStep(name='z')
    >>> parted_by(program, "b", "a")
    raises BadPair(place=2)
'''
# Told rows of up to four values; those of Programs of fewer STEPS are those without the others.
ROWS = (
    (), ((),), (("a",),), (("a",), ("b",), ()), (("a", "b"),), (("b", "a"),), (("a", "c"),), (("c", "a"),),
    (("a", "b", "c"),), (("c", "b", "a"),), (("b", "a", "c"),), (("a", "b"), ("b", "a")), (("a", "b"), ("a", "c")),
    (("a", "c"), ("b", "c")), (("a", "d"),), (("d", "a"),), (("a", "c"), ("b", "d")), (("c", "d"), ("a", "b")),
    (("a", "b"), ("b", "c"), ("c", "a")), (("a", "c"), ("a", "d"), ("b", "c"), ("b", "d")), (("d", "c", "b", "a"),),
    (("a", "b", "c", "d"), ("a", "c", "b", "d")), (("b", "d", "c"),), (("a", "b"), ("a", "b"), ("a", "b", "c")),
    (("a", "b"), ("c",), (), ("d",), ("b", "c"), ("c", "d"), ("a", "d"), ("a", "c")),
)
FIVE = ("a b c d e | - | - | -", "a b c d e | a b; c d | - | -", "a b c d e | a c; b c | d e | -", "a b c d e | e a | - | b",
        APART)
ROWS_OF_FIVE = (
    (("a", "d"), ("a", "e"), ("b", "d"), ("b", "e"), ("c", "d"), ("c", "e")), (("a", "e"), ("b", "e"), ("c", "e")),
    (("a", "c"), ("c", "e"), ("b", "d")), (("a", "b", "c", "d", "e"),), (("e", "b"), ("d", "b")), (("e", "a"),),
)


def some_programs():
    four = [program for program in small_programs() if len(program) == 4]
    return [*small_programs()[len(NAMED)::7], *four, Program(()), Program(("a",)), Program(("a", "b"))]


def rows_of(program):
    """The told rows whose values this Program has."""
    return [rows for rows in ROWS if all(value in program for row in rows for value in row)]


@lru_cache(maxsize=None)
def sets_of_pairs(steps):
    """All sets of pairs of these steps that do not go round, few first."""
    pairs = list(permutations(steps, 2))
    sets = [some for many in range(len(pairs) + 1) for some in combinations(pairs, many)]
    return [some for some in sets if not goes_round(some)]


@lru_cache(maxsize=None)
def ways_of_text(text):
    """All Programs with more WAITS: these WAITS, what is surely ended, what is dead ahead."""
    program = Program.of(text)
    found = []
    for waits in sets_of_pairs(program.steps):
        if not goes_round((*program.reads, *program.waits, *waits)):
            more = Program(program.steps, program.reads, program.waits + waits, program.kept)
            dead = {pair for pair in permutations(program.steps, 2) if is_dead(more, *pair)}
            found.append((waits, ends_of(more), dead))
    return found


def right_ways(program, rows):
    """Those by which all told rows are right."""
    pairs = {pair for row in rows for pair in zip(row, row[1:])}
    return [(waits, ends) for waits, ends, dead in ways_of_text(program.text) if pairs <= dead]


def forced_by_walk(program, rows):
    ways = right_ways(program, rows)
    if not ways:
        return None
    common = set.intersection(*[ends for _, ends in ways])
    return tuple(sorted(common - ends_of(program)))


class TestRows(Case):

    def test_the_examples(self):
        self.examples(EXAMPLES, {**vars(errors), **vars(programs), **vars(module)})

    def test_are_rows(self):
        for program in some_programs():
            for rows in rows_of(program):
                want = all(is_dead(program, *pair) for row in rows for pair in zip(row, row[1:]))
                self.same(are_rows(program, rows), want)

    def test_forced_ends_against_all_waits(self):
        for program in some_programs():
            for rows in rows_of(program):
                self.same(forced_ends(program, rows), forced_by_walk(program, rows))

    def test_forced_ends_put_in(self):
        for program in some_programs():
            for rows in rows_of(program):
                told = forced_ends(program, rows)
                if told is not None:
                    waits = program.waits + told
                    self.same(are_rows(Program(program.steps, program.reads, waits, program.kept), rows), True)

    def test_with_rows(self):
        for program in some_programs():
            for rows in rows_of(program):
                forced = forced_by_walk(program, rows)
                told = with_rows(program, rows)
                if forced is None:
                    self.same(told, None)
                    continue
                self.same((told.steps, told.reads, told.kept), (program.steps, program.reads, program.kept))
                self.assertLessEqual(set(program.waits), set(told.waits))
                more = set(told.waits) - set(program.waits)
                ways = {waits for waits, _ in right_ways(program, rows)}
                right = [some for some in ways if set(some) <= set(forced)]
                self.assertEqual([some for some in right if len(some) <= len(more)], [tuple(
                    pair for pair in permutations(program.steps, 2) if pair in more)])

    def test_none_of_the_waits_can_be_left_out(self):
        for program in some_programs():
            for rows in rows_of(program):
                told = with_rows(program, rows)
                for pair in () if told is None else set(told.waits) - set(program.waits):
                    waits = [wait for wait in told.waits if wait != pair]
                    self.same(are_rows(Program(program.steps, program.reads, waits, program.kept), rows), False)

    def test_fewest_waits(self):
        for program in some_programs():
            for rows in rows_of(program):
                ways = right_ways(program, rows)
                self.same(fewest_waits(program, rows), min([len(waits) for waits, _ in ways], default=None))

    def test_fewest_waits_of_five_steps(self):
        for program in map(Program.of, FIVE):
            for rows in ROWS_OF_FIVE:
                rows = tuple(tuple(dict(zip("abcde", program.steps))[value] for value in row) for row in rows)
                told = fewest_waits(program, rows)
                self.same(told is None, forced_ends(program, rows) is None)
                self.same(told, self.few_first(program, rows) if told is not None else None)

    def few_first(self, program, rows):
        for many in range(7):
            for waits in combinations(permutations(program.steps, 2), many):
                try:
                    more = Program(program.steps, program.reads, program.waits + waits, program.kept)
                except BadPair:
                    continue
                if all(is_dead(more, *pair) for row in rows for pair in zip(row, row[1:])):
                    return many
        return None

    def test_a_least_set_is_not_the_fewest(self):
        program = Program(("a", "b", "c", "d", "e"))
        rows = (("a", "c"), ("a", "d"), ("a", "e"), ("b", "c"), ("b", "d"), ("b", "e"))
        self.answers(4, fewest_waits, program, rows)
        self.same(len(with_rows(program, rows).waits), 6)

    def test_in_each_way(self):
        for program in some_programs()[::7]:
            for rows in rows_of(program)[::2]:
                self.asked(are_rows, program, rows)
                self.answers(forced_by_walk(program, rows), forced_ends, program, rows)
                self.asked(with_rows, program, rows)
                self.asked(fewest_waits, program, rows)

    def test_kept_values(self):
        program = Program(("a", "b", "c"), (), (("a", "b"),), ("b",))
        for rows in ((("b", "c"),), (("a", "b", "c"),), (("a", "b"), ("b", "a"))):
            self.answers(False, are_rows, program, rows)
            for call in (forced_ends, with_rows, fewest_waits):
                self.answers(None, call, program, rows)
        # A kept value may be the last one of a told row, or stand alone.
        self.answers(True, are_rows, program, (("a", "b"), ("b",)))
        self.answers((("a", "c"),), forced_ends, with_kept(program, "c"), (("a", "c"),))

    def test_a_reader_can_not_end_ahead_of_itself(self):
        program = Program.of("a b c | a b; b c | - | -")
        for rows in ((("a", "b"),), (("b", "a"),), (("c", "a"),), (("b", "c"),)):
            for call in (forced_ends, with_rows, fewest_waits):
                self.answers(None, call, program, rows)
        self.answers((), forced_ends, program, (("a", "c"),))
        self.answers(True, are_rows, program, (("a", "c"),))

    def test_nothing_to_put_in(self):
        for program in [*some_programs(), *ten_programs()]:
            for rows in ((), ((),), tuple((value,) for value in program.steps[:7])):
                self.same((are_rows(program, rows), forced_ends(program, rows)), (True, ()))
                self.assertEqual(with_rows(program, rows), program)
                if len(program) <= 5:
                    self.same(fewest_waits(program, rows), 0)

    def test_own_waits_stay_even_if_others_lead_there(self):
        program = Program(("a", "b", "c"), (), (("a", "c"),))
        told = with_rows(program, (("a", "b"), ("b", "c")))
        self.same(told.waits, (("a", "b"), ("a", "c"), ("b", "c")))

    def test_the_program_handed_in_stays(self):
        for program in some_programs():
            text = program.text
            for rows in rows_of(program):
                forced_ends(program, rows), with_rows(program, rows), fewest_waits(program, rows)
            self.same(program.text, text)


class TestOneWait(Case):

    def test_against_all_pairs_that_can_meet(self):
        for program in [*small_programs()[::2], Program.of(APART)]:
            for one, other in permutations(program.steps, 2):
                if (other, one) in ends_of(program):
                    continue
                more = with_wait(program, one, other)
                pairs = combinations(program.steps, 2)
                want = tuple(pair for pair in pairs if meets(program, *pair) and not meets(more, *pair))
                self.same(parted_by(program, one, other), want)
                self.same(is_idle_wait(program, one, other), want == ())
                if (one, other) in program.waits or (one, other) in ends_of(program):
                    self.same(want, ())

    def test_in_each_way(self):
        program = Program.of("a b c d | a b; c d | b d | c")
        for one, other in (("a", "c"), ("b", "c"), ("a", "b"), ("b", "d"), ("a", "d"), ("c", "a")):
            self.asked(parted_by, program, one, other)
            self.asked(is_idle_wait, program, one, other)

    def test_rounds(self):
        for program in small_programs()[::3]:
            many = len(program.reads) + len(program.waits)
            for one in program.steps:
                for other in program.steps:
                    if one == other or (other, one) in ends_of(program):
                        for call in (parted_by, is_idle_wait):
                            self.refuses(BadPair, {"place": many}, call, program, one, other)
        program = Program.of("a b c | a b | a b; b c | -")
        for one, other in (("a", "a"), ("b", "a"), ("c", "a")):
            for call in (parted_by, is_idle_wait):
                self.never(BadPair, {"place": 3}, call, program, one, other)


class TestNoStep(Case):

    def test_the_first_name_of_the_told_rows(self):
        program = Program.of("a b | a b | - | a")
        for rows, name in (((("z",),), "z"), ((("a", "z"), ("y",)), "z"), ((("b", "a"), ("y", "z")), "y"),
                           (((), (), ("b",), ("ab",)), "ab"), ((("a", "b"), ("b", "a"), ("",)), ""), ((("z", "y"),), "z")):
            for call in (are_rows, forced_ends, with_rows, fewest_waits):
                self.never(NoStep, {"name": name}, call, program, rows)
                # Without steps it is the very first NAME.
                self.never(NoStep, {"name": [value for row in rows for value in row][0]}, call, Program(()), rows)

    def test_of_one_wait(self):
        program = Program.of("a b | a b | - | -")
        for one, other, name in (("z", "a", "z"), ("a", "z", "z"), ("y", "z", "y"), ("z", "z", "z")):
            for call in (parted_by, is_idle_wait):
                self.never(NoStep, {"name": name}, call, program, one, other)


class TestTenSteps(Case):

    def test_each_function(self):
        rows = (("a", "c", "e"), ("b", "d"), ("f", "g", "h", "i", "j"), ("a", "j"), ("c",), (), ("e", "g"), ("d", "i"))
        for program in ten_programs():
            told = forced_ends(program, rows)
            more = with_rows(program, rows)
            self.same(more is None, told is None)
            if told is not None:
                self.same(are_rows(more, rows), True)
                self.same(tuple(sorted(ends_of(more) - ends_of(program))), told)
                self.assertLessEqual(set(more.waits) - set(program.waits), set(told))

    def test_some_of_ten_can_be_put_in(self):
        rows = (("a", "c", "e"), ("b", "d"))
        self.assertIn(True, [forced_ends(program, rows) is not None for program in ten_programs()])
        free = program_by("abcdefghij", [0] * 45, ())
        self.answers((("a", "c"), ("a", "e"), ("b", "d"), ("c", "e")), forced_ends, free, rows)
        self.same(with_rows(free, rows).waits, (("a", "c"), ("b", "d"), ("c", "e")))

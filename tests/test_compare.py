"""[14], and what [2] and [3] say of it: two Programs of the same steps."""

from itertools import combinations, product

from seatsahead import compare as module, errors, programs
from seatsahead.compare import (
    alike_worst, is_lot_partings, is_lot_row, is_lot_sizes, is_moment_against, lot_factor, lot_partings, lot_row,
    lot_row_of, lot_sizes, moment_against, never_worse, same_meets)
from seatsahead.errors import OtherSteps
from seatsahead.programs import Program
from tests.cases import Case
from tests.strange import STRANGE, bent
from tests.walks import (
    APART, FORKED, TWINS, great, lots_by_walk, meets, moments_by_walk, partings_of, program_by, rows_by_walk,
    small_programs, some_sizes, subsets, sum_by)

EXAMPLES = '''
    >>> free = Program(("a", "b", "c"))
    >>> line = Program(("a", "b", "c"), (), (("a", "b"), ("b", "c")))
    >>> lot_factor(free, line), lot_factor(line, free), lot_row(free, line), lot_row_of(line, free, 1), is_lot_sizes(free, line, 2, lot_sizes(free, line, 2)), is_lot_sizes(free, line, 2, (5, 5, 4)), is_lot_sizes(free, line, 2, (5, 5, 0))
    (3, 1, ('a', 'b', 'c'), None, True, True, False)
    >>> lot_partings(free, line, 3), lot_partings(free, line, 2), lot_partings(line, free, 1), is_lot_partings(free, line, 3, ((("a", "b", "c"), (("a",), ("b",), ("c",))),))
    (((('a', 'b', 'c'), (('a',), ('b',), ('c',))),), None, ((('a',), (('a',),)), (('b',), (('b',),)), (('c',), (('c',),))), True)
    >>> never_worse(line, free), never_worse(free, line), is_moment_against(free, line, moment_against(free, line)), moment_against(line, free), is_moment_against(free, line, ("a", "c")), alike_worst(free, line), same_meets(free, line)
    (True, False, True, None, True, False, False)
    >>> reads = Program(("a", "b", "c"), (("a", "b"), ("b", "c")))
    >>> lot_factor(reads, line), is_lot_row(reads, line, ("a", "b")), is_lot_row(reads, line, ("a", "c")), lot_factor(free, reads), is_lot_row(free, reads, ("a", "c")), never_worse(line, reads)
    (2, True, False, 2, True, True)
    >>> lot_factor(Program(()), Program(())), lot_row(Program(()), Program(())), lot_partings(Program(()), Program(()), 0)
    (0, (), (((), ()),))
    >>> lot_factor(free, Program(("a", "b")))
    raises OtherSteps()
'''
# In which the same values can meet as in APART, but v with x and y at once, too.
WAITING = "r s v x y | v r; v s | r x; s y | v"
FIVE = (APART, WAITING, "r s v x y | v r; v s | r x; r y; s x; s y | -", "r s v x y | - | - | -",
        "r s v x y | - | r s; s v; v x; x y | -", "r s v x y | r s; v s; v x | s y; v r | x")
SIX = (TWINS, "a b c x y z | - | - | -", "a b c x y z | a x; b y; c z | - | -", "a b c x y z | a b; b c | c x; x y | z")
EIGHT = ("a b c d e f g h | - | - | -", "a b c d e f g h | - | a b; b c; c d; d e; e f; f g; g h | -",
         "a b c d e f g h | a b; b c; c d; d e; e f; f g; g h | - | -",
         "a b c d e f g h | a b; a c; b d; c d | e f; g h | h", "a b c d e f g h | a e; a f; b f; b g; c g; d h | b h | -",
         "a b c d e f g h | - | a e; b e; b f; c f; c g; d g; d h | a")


def couples():
    """Pairs of Programs of the same STEPS, each one with itself, too."""
    four = [program for program in small_programs() if len(program) == 4][::9]
    three = [program for program in small_programs() if len(program) == 3][::37]
    two = [program_by("ab", [kind], kept) for kind in range(4) for kept in ((), "a", "b")]
    groups = [four, three, two, [Program(()), Program(())], [Program(("a",)), Program(("a",), (), (), ("a",))],
              [Program.of(text) for text in FIVE], [Program.of(text) for text in SIX[:3]]]
    return [couple for group in groups for couple in product(group, repeat=2)]


def few_couples():
    return couples()[::17] + list(product(map(Program.of, FIVE[:3]), repeat=2)) + [(Program(()), Program(()))]


def rows_of_lots(one, other):
    """All sets that are a LOT of one and a ROW of other."""
    rows = set(rows_by_walk(other))
    return [some for some in lots_by_walk(one) if some in rows]


def factor_by_walk(one, other):
    return max(map(len, rows_of_lots(one, other)))


def lots_by_sizes(program, sizes):
    return max(sum_by(program, sizes, lot) for lot in lots_by_walk(program))


def partings_by_walk(other, lot, number):
    """All ways to part these values into at most so many LOTS of other."""
    lots = set(lots_by_walk(other))
    return [parts for parts in partings_of(lot) if len(parts) <= number and set(parts) <= lots]


def against(one, other):
    moments = set(moments_by_walk(other))
    return [some for some in moments_by_walk(one) if some not in moments]


class TestRows(Case):

    def test_the_examples(self):
        self.examples(EXAMPLES, {**vars(errors), **vars(programs), **vars(module)})

    def test_factor_and_row(self):
        for one, other in couples():
            rows = rows_of_lots(one, other)
            most = factor_by_walk(one, other)
            self.same(lot_factor(one, other), most)
            told = lot_row(one, other)
            self.assertIn(told, rows)
            self.same((len(told), is_lot_row(one, other, told)), (most, True))

    def test_row_of_each_number(self):
        for one, other in couples():
            rows = rows_of_lots(one, other)
            most = factor_by_walk(one, other)
            for number in (*range(most + 2), 10 ** 30):
                told = lot_row_of(one, other, number)
                if number < most:
                    self.assertIn(told, rows)
                    self.same(len(told), number + 1)
                else:
                    self.same(told, None)

    def test_in_each_way(self):
        for one, other in few_couples():
            self.answers(factor_by_walk(one, other), lot_factor, one, other)
            self.asked(lot_row, one, other)
            for number in (0, 1, 2, 10 ** 30):
                self.asked(lot_row_of, one, other, number)

    def test_things(self):
        for one, other in few_couples():
            right = [some for some in rows_of_lots(one, other) if len(some) == factor_by_walk(one, other)]
            self.tells(is_lot_row, [one, other], right, subsets(one.steps))

    def test_a_program_with_itself(self):
        for program in small_programs():
            self.same(lot_factor(program, program), min(1, len(program)))
            self.same((never_worse(program, program), alike_worst(program, program)), (True, True))
            self.same((moment_against(program, program), same_meets(program, program)), (None, True))

    def test_lots_are_never_more_than_told(self):
        for one, other in couples():
            for sizes in some_sizes(one):
                most = lot_factor(one, other) * lots_by_sizes(other, sizes)
                self.assertLessEqual(lots_by_sizes(one, sizes), most)


class TestSizes(Case):

    def is_right(self, one, other, number, sizes):
        return lots_by_sizes(one, sizes) > number * lots_by_sizes(other, sizes)

    def test_sizes_of_each_number(self):
        for one, other in couples():
            most = factor_by_walk(one, other)
            for number in (*range(most + 2), 10 ** 30):
                told = lot_sizes(one, other, number)
                self.same(told is not None, number < most)
                self.same(is_lot_sizes(one, other, number, told), number < most)
                if told is not None:
                    self.same(self.is_right(one, other, number, told), True)

    def test_there_are_no_others(self):
        for one, other in few_couples():
            most = factor_by_walk(one, other)
            for sizes in product(range(3), repeat=len(one)):
                self.same(self.is_right(one, other, most, sizes), False)

    def test_in_each_way(self):
        for one, other in few_couples():
            for number in (0, 1, 2, 10 ** 30):
                self.asked(lot_sizes, one, other, number)

    def test_things(self):
        for one, other in few_couples():
            for number in (0, 1, 2, 3, 10 ** 30):
                tried = [*some_sizes(one), *list(product(range(3), repeat=len(one)))[::7]]
                told = lot_sizes(one, other, number)
                if told is not None:
                    self.by_names(is_lot_sizes, [one, other, number], told)
                    tried += [told, *bent(told), tuple(10 ** 40 * size for size in told)]
                for thing in [*STRANGE, *tried]:
                    fit = thing.__class__ is tuple and len(thing) == len(one)
                    fit = fit and all(size.__class__ is int and size >= 0 for size in thing)
                    right = fit and self.is_right(one, other, number, thing)
                    self.says(is_lot_sizes, [one, other, number], thing, right)


class TestPartings(Case):

    def are_right(self, one, other, number, told):
        lots = great(lots_by_walk(one))
        if [lot for lot, _ in told] != lots:
            return False
        return all(parts in partings_by_walk(other, lot, number) for lot, parts in told)

    def test_partings_of_each_number(self):
        for one, other in couples():
            most = factor_by_walk(one, other)
            for number in (*range(most + 2), 10 ** 30):
                told = lot_partings(one, other, number)
                lots = great(lots_by_walk(one))
                self.same(told is not None, all(partings_by_walk(other, lot, number) for lot in lots))
                self.same(told is not None, number >= most)
                self.same(is_lot_partings(one, other, number, told), number >= most)
                if told is not None:
                    self.assertTrue(self.are_right(one, other, number, told), told)

    def test_in_each_way(self):
        for one, other in few_couples():
            for number in (0, 1, 2, 10 ** 30):
                self.asked(lot_partings, one, other, number)

    def all_right(self, one, other, number):
        ways = [[(lot, parts) for parts in partings_by_walk(other, lot, number)] for lot in great(lots_by_walk(one))]
        return list(product(*ways))[:40]

    def test_things(self):
        for one, other in few_couples()[::2]:
            for number in (0, 1, 2, len(one)):
                right = self.all_right(one, other, number)
                more = self.all_right(one, other, number + 1)
                every = [tuple((some, (some,)) for some in lots_by_walk(one)), tuple((some, ()) for some in ((), ("a",)))]
                others = [*more, *every, *[thing[::-1] for thing in more], *[thing + thing[-1:] for thing in more]]
                # Those that are right for a greater number, but have too many parts for this one.
                self.tells(is_lot_partings, [one, other, number], right,
                           [thing for thing in others if thing in right or not self.are_right(one, other, number, thing)])

    def test_bent_ones(self):
        free = Program.of("a b c d | - | - | -")
        line = Program.of("a b c d | a b; c d | b c | -")
        lot = ("a", "b", "c", "d")
        right = (("a", "b"), ("c", "d"))
        for parts in [right, (("a",), ("b",), ("c", "d"))]:
            self.says(is_lot_partings, [free, line, 3], ((lot, parts),), True)
        for parts in [(("c", "d"), ("a", "b")), ((), ("a", "b"), ("c", "d")), (("a", "b"), ("b",), ("c", "d")),
                      (("a", "b"),), (("a", "b"), ("c",)), (("a", "c"), ("b", "d")), (("a", "b"), ("d", "c")), (lot,),
                      (("a",), ("b",), ("c",), ("d",)), right + (("z",),), (["a", "b"], ("c", "d")), list(right),
                      (("a", "b"), ("c", "d", "d")), right + right, (("a", "b"), ("a", "b"), ("c", "d"))]:
            self.says(is_lot_partings, [free, line, 3], ((lot, parts),), False)
        self.says(is_lot_partings, [free, line, 4], ((lot, (("a",), ("b",), ("c",), ("d",))),), True)
        told = ((("a", "b"), (("a", "b"),)), (("c", "d"), (("c", "d"),)))
        for thing, want in [(told, True), (told[:1], False), (told[::-1], False), (told + told[1:], False),
                            ((*told, (("d",), (("d",),))), False), (((("a",), (("a",),)), *told), False),
                            (told[:1] + ((("c",), (("c",),)),), False), (told[:1] + ((["c", "d"], (("c", "d"),)),), False),
                            (list(told), False), (told[:1] + (told[1] + (1,),), False)]:
            self.says(is_lot_partings, [line, free, 1], thing, want)

    def test_nothing_but_the_values_of_the_lot_stands_in_the_parts(self):
        line = Program.of("a b | - | a b | -")
        free = Program.of("a b | - | - | -")
        right = ((("a",), (("a",),)), (("b",), (("b",),)))
        more = ((("a",), (("a", "b"),)), (("b",), (("b",),)))
        self.says(is_lot_partings, [line, free, 2], right, True)
        self.says(is_lot_partings, [line, free, 2], more, False)

    def test_no_steps(self):
        none = Program(())
        for number in (0, 1, 10 ** 30):
            self.answers((((), ()),), lot_partings, none, none, number)
            self.tells(is_lot_partings, [none, none, number], [(((), ()),)])
            self.answers(None, lot_row_of, none, none, number)
            self.answers(None, lot_sizes, none, none, number)
            self.tells(is_lot_sizes, [none, none, number], [])
        self.answers(0, lot_factor, none, none)
        self.answers((), lot_row, none, none)
        self.tells(is_lot_row, [none, none], [()])


class TestMoments(Case):

    def test_against_all_moment_sets(self):
        for one, other in couples():
            lost = against(one, other)
            self.same(never_worse(one, other), not lost)
            self.same(alike_worst(one, other), not lost and not against(other, one))
            told = moment_against(one, other)
            self.same(is_moment_against(one, other, told), told is not None)
            if told is None:
                self.same(lost, [])
            else:
                self.assertIn(told, lost)

    def test_never_worse_by_sizes(self):
        for one, other in couples():
            tried = [*some_sizes(one), *[tuple(int(value in some) for value in one.steps) for some in subsets(one.steps)]]
            worse = [sizes for sizes in tried if max(sum_by(one, sizes, some) for some in moments_by_walk(one))
                     > max(sum_by(other, sizes, some) for some in moments_by_walk(other))]
            self.same(never_worse(one, other), worse == [])

    def test_same_meets(self):
        for one, other in couples():
            pairs = list(combinations(one.steps, 2))
            want = all(meets(one, *pair) == meets(other, *pair) for pair in pairs)
            self.same(same_meets(one, other), want)

    def test_the_same_meets_and_other_moments(self):
        one, other = Program.of(WAITING), Program.of(APART)
        self.same((same_meets(one, other), never_worse(other, one), alike_worst(one, other)), (True, True, False))
        self.same((moment_against(one, other), moment_against(other, one)), (("v", "x", "y"), None))

    def test_in_each_way(self):
        for one, other in few_couples():
            self.answers(not against(one, other), never_worse, one, other)
            self.asked(moment_against, one, other)
            self.asked(alike_worst, one, other)
            self.asked(same_meets, one, other)

    def test_things(self):
        for one, other in few_couples():
            self.tells(is_moment_against, [one, other], against(one, other), subsets(one.steps))


class TestOtherSteps(Case):

    def test_ahead_of_all_else(self):
        a, ab, abc = Program(("a",)), Program(("a", "b")), Program(("a", "b", "c"))
        unlike = Program(("a", "c"))
        eight, nine = Program(tuple("abcdefgh")), Program(tuple("abcdefghi"))
        for one, other in [(ab, abc), (abc, ab), (ab, unlike), (unlike, ab), (Program(()), a), (a, Program(())),
                           (eight, nine), (nine, eight), (Program.of(FORKED), Program.of(APART))]:
            for call in (lot_factor, lot_row, moment_against, never_worse, alike_worst, same_meets):
                self.never(OtherSteps, {}, call, one, other)
            for call in (lot_row_of, lot_sizes, lot_partings):
                for number in (0, 1, 10 ** 30):
                    self.never(OtherSteps, {}, call, one, other, number)

    def test_of_things_too(self):
        one, other = Program(("a", "b")), Program(("a", "b", "c"))
        for thing in (*STRANGE, (1, 1), (0, 0, 1), ((("a", "b"), (("a", "b"),)),)):
            for call in (is_lot_row, is_moment_against):
                self.refuses(OtherSteps, {}, call, one, other, thing)
                self.refuses(OtherSteps, {}, call, other, one, thing)
            for call in (is_lot_sizes, is_lot_partings):
                self.refuses(OtherSteps, {}, call, one, other, 1, thing)
                self.refuses(OtherSteps, {}, call, other, one, 0, thing)
        names = {"one": one, "other": other, "number": 0, "thing": ()}
        self.refuses(OtherSteps, {}, is_lot_sizes, **names)
        self.refuses(OtherSteps, {}, is_lot_partings, **names)


class TestEightSteps(Case):

    def test_each_function(self):
        for one, other in product(map(Program.of, EIGHT), repeat=2):
            row = lot_row(one, other)
            most = lot_factor(one, other)
            self.same((len(row), is_lot_row(one, other, row)), (most, True))
            for number in (most - 1, most):
                told = lot_row_of(one, other, number), lot_sizes(one, other, number), lot_partings(one, other, number)
                self.same([thing is None for thing in told], [number == most, number == most, number < most])
                self.same(is_lot_sizes(one, other, number, told[1]), number < most)
                self.same(is_lot_partings(one, other, number, told[2]), number == most)
            told = moment_against(one, other)
            self.same((never_worse(one, other), is_moment_against(one, other, told)), (told is None, told is not None))
            self.same(alike_worst(one, other), told is None and never_worse(other, one))
            self.same(same_meets(one, other), same_meets(other, one))

    def test_against_the_walks(self):
        for one, other in [(Program.of(EIGHT[3]), Program.of(EIGHT[4])), (Program.of(EIGHT[4]), Program.of(EIGHT[5]))]:
            self.same(lot_factor(one, other), factor_by_walk(one, other))
            self.same(never_worse(one, other), against(one, other) == [])

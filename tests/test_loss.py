"""[13], and what [2] and [3] say of it: what LOTS lose beside the moments of runs."""

from itertools import combinations_with_replacement, product
from math import gcd

from seatsahead import errors, loss as module, programs
from seatsahead.loss import (
    cover_of, is_cover_of, is_lossy_sizes, is_lost_lot, least_loss, loss_of, lossy_sizes, lost_lot, never_lost)
from seatsahead.programs import Program
from seatsahead.sizes import lots_of, worst
from tests.cases import Case
from tests.strange import STRANGE, bent
from tests.walks import (
    APART, FORKED, FREE, TWINS, few_programs, great, lots_by_walk, moments_by_walk, small_programs, some_sizes,
    subsets, sum_by, ten_programs)

EXAMPLES = '''
    >>> apart = Program(("r", "s", "v", "x", "y"), (("v", "r"), ("v", "s")), (("r", "x"), ("s", "y")))
    >>> never_lost(apart), lost_lot(apart), is_lost_lot(apart, ("v", "x")), loss_of(apart, ("v", "x", "y")), loss_of(apart, ("r", "s", "v")), least_loss(apart)
    (False, ('v', 'x', 'y'), False, (3, 2), (1, 1), (3, 2))
    >>> is_cover_of(apart, ("v", "x", "y"), (2, ((("v", "x"), 1), (("v", "y"), 1), (("x", "y"), 1)))), is_cover_of(apart, ("v", "x", "y"), cover_of(apart, ("v", "x", "y"))), is_cover_of(apart, ("v", "x", "y"), (1, ((("v", "x"), 1), (("y",), 1))))
    (True, True, False)
    >>> is_lossy_sizes(apart, (0, 0, 7, 7, 7)), is_lossy_sizes(apart, lossy_sizes(apart)), is_lossy_sizes(apart, (0, 0, 1, 1, 2)), is_lossy_sizes(apart, (0, 0, 0, 0, 0))
    (True, True, False, False)
    >>> sums = Program(("a", "b", "c"), (("a", "c"), ("b", "c")), (), ("c",))
    >>> never_lost(sums), lost_lot(sums), least_loss(sums), is_lossy_sizes(sums, (1, 0, 0)), least_loss(Program(())), lossy_sizes(Program(()))
    (True, None, (1, 1), True, (0, 1), None)
'''
# Programs with LOTS that are no MOMENT SETS, and the greatest factor of these.
LOSSY = {
    APART: (3, 2),
    FORKED: (3, 2),
    "a b c d e | a b; a c; b e | c d | -": (3, 2),
    "a b c d e f | a b; a c; c e | b d | c": (3, 2),
    "a b c v x y z | v a; v b; v c | a x; b y; c z | -": (4, 3),
    "a b c v x y z | v a; v b; v c | a x; b y; c z | x": (4, 3),
    "a b c d e f g | a b; a f; b e; f g | - | -": (3, 2),
    # The LOT that loses most is neither the first nor the last one of those that lie in no other.
    "i k o p r | i o; i p | o k; p r | -": (3, 2),
    "a e i s y z | a e; z a; z s | a y; s i; s y | e y": (3, 2),
}
# Of eight STEPS and more, and no walk through all beginnings.
GREAT = {
    "a b c d v w x y z | v a; v b; v c; v d | a w; b x; c y; d z | -": (5, 4),
    "a b c d e f g h i j | a b; a c; a d; a e; a f; b i; c g; c i; d f; d i; e f; e i; e j; f j; g j | "
    "a g; a h; a j; b h; f h; g i | c e": (5, 3),
    "a b c d e f g h i j | a c; a j; b c; b e; b g; d e; d i; d j; e j | c h; d h; f g; g i | -": (4, 3),
}


def lossy_programs():
    return [Program.of(text) for text in LOSSY]


def others():
    """Some of the small ones, and those with lost LOTS."""
    return [*small_programs()[::5], Program.of(TWINS), Program.of(FREE), *lossy_programs()]


def lost_by_walk(program):
    moments = set(moments_by_walk(program))
    return [lot for lot in lots_by_walk(program) if lot not in moments]


def worst_by_walk(program, sizes):
    return max(sum_by(program, sizes, some) for some in moments_by_walk(program))


def lots_by_sizes(program, sizes):
    return max(sum_by(program, sizes, lot) for lot in lots_by_walk(program))


def sizes_on(program, lot, weights):
    """SIZES by which the values of the LOT have these, and all others 0."""
    size = dict(zip(lot, weights))
    return tuple(size.get(value, 0) for value in program.steps)


def fraction(top, bottom):
    return top // gcd(top, bottom), bottom // gcd(top, bottom)


def factor_by_sizes(program, lot):
    """The greatest share of the LOT in WORST by SIZES from 0 to 3: enough for four values.

    It is reached at a corner, the solution of four equations with the coefficients 0 and 1; the
    determinants of these are 3 at the most.
    """
    best = (0, 1)
    parts = great({tuple(value for value in lot if value in some) for some in moments_by_walk(program)})
    for weights in product(range(4), repeat=len(lot)):
        size = dict(zip(lot, weights))
        bottom = max(sum(size[value] for value in part) for part in parts)
        if sum(weights) * best[1] > best[0] * bottom:
            best = (sum(weights), bottom)
    return fraction(*best)


def is_cover(program, lot, thing, factor):
    """Whether thing, a pair of a number and pairs of sets and numbers, is a COVER of just so many."""
    number, rows = thing
    moments = set(moments_by_walk(program))
    if number < 1 or not all(some in moments and many >= 1 for some, many in rows):
        return False
    if any(sum(many for some, many in rows if value in some) < number for value in lot):
        return False
    return sum(many for _, many in rows) * factor[1] == number * factor[0]


def looks_like_a_cover(thing):
    if thing.__class__ is not tuple or len(thing) != 2 or thing[0].__class__ is not int:
        return False
    if thing[1].__class__ is not tuple or not all(row.__class__ is tuple and len(row) == 2 for row in thing[1]):
        return False
    return all(some.__class__ is tuple and all(value.__class__ is str for value in some) and many.__class__ is int
               for some, many in thing[1])


class TestLost(Case):

    def test_the_examples(self):
        self.examples(EXAMPLES, {**vars(errors), **vars(programs), **vars(module)})

    def test_never_lost_and_lost_lot(self):
        for program in [*small_programs(), Program.of(TWINS), *lossy_programs()]:
            lost = lost_by_walk(program)
            self.same(never_lost(program), not lost)
            told = lost_lot(program)
            if told is None:
                self.same(lost, [])
            else:
                self.assertIn(told, lost)
                self.same(is_lost_lot(program, told), True)

    def test_some_are_lost(self):
        self.assertEqual([never_lost(program) for program in lossy_programs()], [False] * len(LOSSY))
        self.assertIn(True, [never_lost(program) for program in others()])

    def test_in_each_way(self):
        for program in [*few_programs(), *lossy_programs()]:
            self.answers(not lost_by_walk(program), never_lost, program)
            self.asked(lost_lot, program)

    def test_things(self):
        for program in [*few_programs(), Program.of(TWINS), *lossy_programs()]:
            self.tells(is_lost_lot, [program], lost_by_walk(program), subsets(program.steps))

    def test_with_sizes(self):
        for program in others():
            if never_lost(program):
                for sizes in some_sizes(program):
                    self.same(lots_of(program, sizes), worst(program, sizes))


class TestFactors(Case):

    def test_against_all_sizes(self):
        for program in others():
            for lot in lots_by_walk(program):
                if len(lot) <= 4:
                    self.same(loss_of(program, lot), factor_by_sizes(program, lot))

    def test_greater_lots_by_their_covers(self):
        # The COVER shows that the factor is no greater, and SIZES from 0 to 3 come near from below.
        for program in lossy_programs():
            for lot in great(lots_by_walk(program)):
                top, bottom = loss_of(program, lot)
                self.same(is_cover(program, lot, cover_of(program, lot), (top, bottom)), True)
                for weights in product(range(3), repeat=len(lot)):
                    least = worst_by_walk(program, sizes_on(program, lot, weights))
                    self.assertLessEqual(sum(weights) * bottom, top * least)

    def test_in_each_way(self):
        for program in [Program.of(APART), Program.of(FORKED), Program.of("a b c | a c; b c | - | c")]:
            for lot in lots_by_walk(program):
                self.asked(loss_of, program, lot)
        for program in [*few_programs(), *lossy_programs()]:
            self.asked(least_loss, program)

    def test_nothing_and_one_value(self):
        for program in few_programs():
            self.same(loss_of(program, ()), (0, 1))
            for value in program.steps:
                self.same(loss_of(program, (value,)), (1, 1))

    def test_least_loss_is_the_greatest_factor(self):
        for program in others():
            factors = [loss_of(program, lot) for lot in lots_by_walk(program)]
            told = least_loss(program)
            self.assertIn(told, factors)
            self.assertEqual([one for one in factors if one[0] * told[1] > told[0] * one[1]], [])
            self.same(told == (1, 1), never_lost(program) and len(program) > 0)

    def test_known_factors(self):
        for text, factor in {**LOSSY, **GREAT}.items():
            self.answers(factor, least_loss, Program.of(text))

    def test_lowest_terms(self):
        for numbers, want in (((4, 2), (2, 1)), ((0, 6), (0, 1)), ((6, 9, 0), (2, 3, 0)), ((5, 3), (5, 3)), ((1, 1), (1, 1))):
            self.same(module._lowest(numbers), want)

    def test_lots_are_never_more_than_told(self):
        for program in others():
            top, bottom = least_loss(program)
            for sizes in some_sizes(program):
                self.assertLessEqual(lots_of(program, sizes) * bottom, top * worst(program, sizes))

    def test_no_steps(self):
        program = Program(())
        self.answers((0, 1), least_loss, program)
        self.answers((0, 1), loss_of, program, ())
        self.answers((1, ()), cover_of, program, ())
        self.answers(None, lossy_sizes, program)
        self.answers(None, lost_lot, program)
        self.answers(True, never_lost, program)
        self.tells(is_lost_lot, [program], [])
        self.tells(is_lossy_sizes, [program], [])

    def test_kept_values_stay_with_all_behind(self):
        line = "a b c d | - | a b; b c; c d | "
        self.same([least_loss(Program.of(line + kept)) for kept in ("-", "a", "a b c d")], [(1, 1)] * 3)
        # With v kept no reader has to be at work for it to live.
        self.same(least_loss(Program.of(APART[:-1] + "v")), (1, 1))


class TestCovers(Case):

    def lots(self):
        for program in [Program.of("a b c | a c; b c | - | c"), Program.of("a b | - | a b | a"), *lossy_programs()[:5]]:
            for lot in [*lost_by_walk(program), *lots_by_walk(program)[::9]]:
                yield program, lot

    def test_cover_of(self):
        for program in others():
            for lot in lots_by_walk(program):
                told = cover_of(program, lot)
                self.assertTrue(looks_like_a_cover(told), told)
                self.same(is_cover(program, lot, told, loss_of(program, lot)), True)
                self.same(is_cover_of(program, lot, told), True)

    def test_in_each_way(self):
        for program, lot in self.lots():
            told = self.asked(cover_of, program, lot)
            self.by_names(is_cover_of, [program, lot], told)

    def test_no_cover_of_fewer(self):
        for program, lot in self.lots():
            top, bottom = loss_of(program, lot)
            sets = great(moments_by_walk(program))
            for number in range(1, 4):
                fewer = -(-number * top // bottom) - 1
                for some in combinations_with_replacement(sets, max(0, fewer)):
                    seldom = [value for value in lot if sum(value in one for one in some) < number]
                    self.assertNotEqual(lot and seldom, [])

    def changed(self, program, told):
        """Other COVERS, and what is none."""
        number, rows = told
        moments = moments_by_walk(program)
        yield number, rows[::-1]
        yield 2 * number, tuple((some, 2 * many) for some, many in rows)
        yield 2 * number, rows + rows
        yield 2 * number, rows
        yield number, tuple((some, 2 * many) for some, many in rows)
        yield number, (((), 1), *rows)
        yield number + 1, (((), 1), *rows)
        yield 0, ()
        yield 1, ()
        yield 1, (((), 1),)
        yield 1, tuple(((value,), 1) for value in program.steps)
        yield 1, ((tuple(program.steps), 1),)
        for some in moments:
            yield 1, ((some, 1),)
            yield number, (*rows, (some, 1))
            yield number, (*rows[:-1], (some, 1))
            yield number, tuple((tuple(sorted({*one, *some})), many) for one, many in rows)
        for other in great(moments):
            for some in great(moments):
                yield 1, ((some, 1), (other, 1))
                yield 2, ((some, 1), (other, 1), (moments[-1], 1))
        yield 10 ** 40 * number, tuple((some, 10 ** 40 * many) for some, many in rows)

    def test_things(self):
        for program, lot in self.lots():
            told = cover_of(program, lot)
            factor = loss_of(program, lot)
            for thing in [*STRANGE, *bent(told), told, *self.changed(program, told)]:
                right = looks_like_a_cover(thing) and is_cover(program, lot, thing, factor)
                self.says(is_cover_of, [program, lot], thing, right)

    def test_a_set_may_come_twice_and_in_any_order(self):
        program = Program.of(APART)
        lot = ("v", "x", "y")
        rows = ((("v", "x"), 1), (("v", "y"), 1), (("x", "y"), 1))
        # Of the three that are needed each may have more values, as long as all of them live at one moment.
        more = ((("s", "v", "x"), 1), (("r", "v", "y"), 1), (("x", "y"), 1))
        for thing in [(2, rows), (2, rows[::-1]), (4, rows + rows[::-1]), (2, more), (4, rows + more),
                      (6, tuple((some, 3) for some, _ in rows))]:
            self.says(is_cover_of, [program, lot], thing, True)
        for thing in [(2, rows[1:]), (1, rows), (3, rows + rows), (2, rows + rows), (2, ((("x", "v"), 1), *rows[1:])),
                      (2, rows[:2] + ((("v", "x", "y"), 1),)), (2, rows[:2] + ((("x", "z"), 1),)),
                      (4, rows + ((("v", "x"), 2), (("v", "y"), 1))), (2, rows + (((), 0),)),
                      (2, ((("v", "x"), True), *rows[1:])), (True, rows), (2, (*rows[:2], [("x", "y"), 1]))]:
            self.says(is_cover_of, [program, lot], thing, False)


class TestLossySizes(Case):

    def is_right(self, program, sizes):
        top, bottom = least_loss(program)
        least = worst_by_walk(program, sizes)
        return least > 0 and lots_by_sizes(program, sizes) * bottom == least * top

    def test_lossy_sizes(self):
        for program in others():
            told = lossy_sizes(program)
            if len(program) == 0:
                self.same(told, None)
            else:
                self.same(self.is_right(program, told), True)
                self.same(is_lossy_sizes(program, told), True)

    def test_in_each_way(self):
        for program in [*few_programs(), *lossy_programs()]:
            self.asked(lossy_sizes, program)

    def test_things(self):
        for program in [*few_programs()[1:], Program.of(APART), Program.of(FORKED)]:
            told = lossy_sizes(program)
            great_ones = tuple(10 ** 40 * size for size in told)
            tried = [*some_sizes(program), *list(product(range(3), repeat=len(program)))[::5], great_ones]
            self.by_names(is_lossy_sizes, [program], told)
            for thing in [*STRANGE, *bent(told), told, *tried]:
                fit = thing.__class__ is tuple and len(thing) == len(program)
                fit = fit and all(size.__class__ is int and size >= 0 for size in thing)
                self.says(is_lossy_sizes, [program], thing, fit and self.is_right(program, thing))

    def test_all_0(self):
        for program in others():
            self.says(is_lossy_sizes, [program], (0,) * len(program), False)


class TestTenSteps(Case):

    def test_each_function(self):
        for program in [*ten_programs(), *map(Program.of, GREAT)]:
            factor = self.asked(least_loss, program)
            self.same(factor == (1, 1), never_lost(program))
            lot = lost_lot(program)
            self.same(is_lost_lot(program, lot), lot is not None)
            if lot is not None:
                told = cover_of(program, lot)
                self.same(is_cover_of(program, lot, told), True)
                top, bottom = loss_of(program, lot)
                self.assertGreater(top, bottom)
            sizes = lossy_sizes(program)
            self.same(lots_of(program, sizes) * factor[1], worst(program, sizes) * factor[0])
            self.same(is_lossy_sizes(program, sizes), True)

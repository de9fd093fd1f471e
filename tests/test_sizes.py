"""[8], and what [2] and [3] say of it: SIZES."""

from itertools import permutations, product

from seatsahead import errors, lots, programs, runs as run_module, sizes as module
from seatsahead.errors import NoStep
from seatsahead.programs import Program
from seatsahead.runs import run_of
from seatsahead.sizes import (
    best_order, deeds_to_worst, first_peak, heaviest_lot, is_best_order, is_deeds_to_worst, is_heaviest_lot, is_sizes,
    least_peak, lots_of, peak, spare, sum_of, tight, worst)
from tests.cases import Case
from tests.strange import STRANGE, bent
from tests.walks import (
    APART, FORKED, TEN, TWINS, all_lives, beginnings, behind, few_programs, lives_by, lots_by_walk, moments_by_walk,
    orders, peaks, runs, small_programs, some_sizes, subsets, sum_by, ten_programs)

EXAMPLES = '''
    >>> sums = Program(("a", "b", "c"), (("a", "c"), ("b", "c")), (), ("c",))
    >>> run = run_of(sums, ("a", "b", "c"))
    >>> peak(sums, run, (5, 2, 1)), first_peak(sums, run, (5, 2, 1)), worst(sums, (5, 2, 1)), lots_of(sums, (5, 2, 1)), heaviest_lot(sums, (5, 2, 1)), tight(sums, (5, 2, 1))
    (8, 5, 8, 8, ('a', 'b', 'c'), ('a', 'b', 'c'))
    >>> two = Program(("a", "b", "c", "d"), (("a", "b"), ("c", "d")))
    >>> worst(two, (9, 1, 8, 1)), least_peak(two, (9, 1, 8, 1)), peak(two, run_of(two, ("a", "c", "b", "d")), (9, 1, 8, 1)), is_best_order(two, (9, 1, 8, 1), best_order(two, (9, 1, 8, 1)))
    (19, 10, 18, True)
    >>> is_best_order(two, (9, 1, 8, 1), ("a", "c", "b", "d")), is_deeds_to_worst(two, (9, 1, 8, 1), deeds_to_worst(two, (9, 1, 8, 1))), spare(two, (9, 1, 8, 1), "b"), spare(two, (9, 0, 8, 0), "d")
    (False, True, 0, 0)
    >>> chain = Program(("a", "b", "c"), (("a", "b"), ("b", "c")))
    >>> worst(chain, (4, 1, 2)), spare(chain, (4, 1, 2), "c"), tight(chain, (4, 1, 2)), is_heaviest_lot(chain, (4, 1, 2), ("a", "b")), is_sizes(chain, (4, 1)), sum_of(chain, (4, 1, 2), ("a", "c"))
    (5, 2, ('a', 'b'), True, False, 6)
    >>> spare(chain, (4, 1, 2), "z")
    raises NoStep(name='z')
'''
HUGE = 10 ** 30


def worst_by(program, sizes):
    return max(sum_by(program, sizes, some) for some in all_lives(program))


def lots_by(program, sizes):
    return max(sum_by(program, sizes, some) for some in lots_by_walk(program))


def sums_by(program, sizes, run):
    lives = [lives_by(program, *behind(program, run[:many])) for many in range(len(run) + 1)]
    return [sum_by(program, sizes, values) for values in lives]


def straight(order):
    return tuple((deed, step) for step in order for deed in ("begin", "end"))


def cases(every):
    """Programs, each with SIZES, every so many of them."""
    found = [(program, sizes) for program in small_programs() for sizes in some_sizes(program)]
    return found[::every]


class TestSums(Case):

    def test_the_examples(self):
        self.examples(EXAMPLES, {**vars(errors), **vars(programs), **vars(run_module), **vars(lots), **vars(module)})

    def test_sum_of(self):
        for program, sizes in cases(40):
            for some in subsets(program.steps):
                self.answers(sum_by(program, sizes, some), sum_of, program, sizes, some)

    def test_peaks(self):
        for program, sizes in cases(7):
            known = runs(program)
            for run in known[::1 + len(known) // 4]:
                sums = sums_by(program, sizes, run)
                self.same(peak(program, run, sizes), max(sums))
                self.same(first_peak(program, run, sizes), sums.index(max(sums)))

    def test_peaks_in_each_way(self):
        for program in few_programs():
            for sizes in some_sizes(program):
                run = runs(program)[-1]
                sums = sums_by(program, sizes, run)
                self.answers(max(sums), peak, program, run, sizes)
                self.answers(sums.index(max(sums)), first_peak, program, run, sizes)

    def test_a_program_without_steps(self):
        for call in (worst, lots_of, least_peak):
            self.answers(0, call, Program(()), ())
        for call in (deeds_to_worst, heaviest_lot, best_order, tight):
            self.answers((), call, Program(()), ())
        self.answers(0, peak, Program(()), (), ())
        self.answers(0, first_peak, Program(()), (), ())
        self.answers(0, sum_of, Program(()), (), ())
        for call in (is_deeds_to_worst, is_heaviest_lot, is_best_order):
            self.tells(call, [Program(()), ()], [()])
        self.tells(is_sizes, [Program(())], [()])


class TestSizes(Case):

    def right(self, many, thing):
        if not isinstance(thing, tuple) or len(thing) != many:
            return False
        return all(item.__class__ is int and item >= 0 for item in thing)

    def test_things(self):
        for text in ("a | - | - | -", "a b | - | - | -", "a b c | a b | - | -", "a b c d | - | - | -"):
            program = Program.of(text)
            many = len(program)
            for sizes in [*some_sizes(program), (HUGE,) * many, (10 ** 400,) * many, (0,) * (many - 1) + (10 ** 5000,)]:
                self.says(is_sizes, [program], sizes, True)
                self.by_names(is_sizes, [program], sizes)
            for thing in [*STRANGE, *bent(tuple(range(many))), *bent((1,) * many)]:
                self.says(is_sizes, [program], thing, self.right(many, thing))


class TestWorst(Case):

    def test_against_all_runs(self):
        for program, sizes in cases(3):
            most = worst_by(program, sizes)
            self.same(worst(program, sizes), most)
            self.same(lots_of(program, sizes), lots_by(program, sizes))
            deeds = deeds_to_worst(program, sizes)
            self.same(is_deeds_to_worst(program, sizes, deeds), True)
            self.same(sums_by(program, sizes, deeds)[-1], most)
            moments = moments_by_walk(program)
            slack = [most - max(sum_by(program, sizes, some) for some in moments if value in some)
                     for value in program.steps]
            self.same([spare(program, sizes, value) for value in program.steps], slack)
            self.same(tight(program, sizes), tuple(value for value, left in zip(program.steps, slack) if left == 0))

    def test_where_lots_are_greater(self):
        for text in (FORKED, APART):
            program = Program.of(text)
            for sizes in [*some_sizes(program), (1, 0, 1, 1, 1), (0, 0, 7, 7, 7), (5, 3, 3, 0, 0)]:
                self.answers(worst_by(program, sizes), worst, program, sizes)
                self.answers(lots_by(program, sizes), lots_of, program, sizes)
        self.same((worst(Program.of(APART), (0, 0, 7, 7, 7)), lots_of(Program.of(APART), (0, 0, 7, 7, 7))), (14, 21))

    def test_in_each_way(self):
        for program in few_programs():
            for sizes in some_sizes(program):
                self.answers(worst_by(program, sizes), worst, program, sizes)
                self.answers(lots_by(program, sizes), lots_of, program, sizes)
                deeds = self.asked(deeds_to_worst, program, sizes)
                self.same(is_deeds_to_worst(program, sizes, deeds), True)
                self.asked(tight, program, sizes)
                for value in program.steps:
                    self.asked(spare, program, sizes, value)

    def test_what_spare_means(self):
        for program, sizes in cases(11):
            for place, value in enumerate(program.steps):
                left = spare(program, sizes, value)
                for more in (left, left + 1):
                    other = sizes[:place] + (sizes[place] + more,) + sizes[place + 1:]
                    self.same(worst(program, other) == worst(program, sizes), more == left)

    def test_strange_names(self):
        self.never(NoStep, {"name": "z"}, spare, Program.of("a b | a b | - | -"), (1, 2), "z")
        self.never(NoStep, {"name": "a"}, spare, Program(()), (), "a")

    def test_things(self):
        for program in few_programs()[1::4]:
            known = beginnings(program)
            for sizes in list(some_sizes(program))[1:4]:
                most = worst_by(program, sizes)
                right = [deeds for deeds, begun, ended in known
                         if sum_by(program, sizes, lives_by(program, begun, ended)) == most]
                self.tells(is_deeds_to_worst, [program, sizes], right, [deeds for deeds, _, _ in known])


class TestLots(Case):

    def test_heaviest_lots(self):
        for program, sizes in cases(5):
            lot = heaviest_lot(program, sizes)
            self.assertIn(lot, lots_by_walk(program))
            self.same(sum_by(program, sizes, lot), lots_by(program, sizes))

    def test_in_each_way(self):
        for program in few_programs():
            for sizes in some_sizes(program):
                lot = self.asked(heaviest_lot, program, sizes)
                self.same(is_heaviest_lot(program, sizes, lot), True)

    def test_things(self):
        for program in [*few_programs(), Program.of(FORKED), Program.of(APART)]:
            for sizes in some_sizes(program):
                most = lots_by(program, sizes)
                right = [some for some in lots_by_walk(program) if sum_by(program, sizes, some) == most]
                self.tells(is_heaviest_lot, [program, sizes], right, subsets(program.steps))


class TestOrders(Case):

    def test_the_least_peak_of_all_runs(self):
        for program, sizes in cases(13):
            least = min(peaks(program, sizes))
            self.same(least_peak(program, sizes), least)
            order = best_order(program, sizes)
            self.assertIn(order, orders(program))
            self.same(max(sums_by(program, sizes, straight(order))), least)
            self.same(peak(program, run_of(program, order), sizes), least)

    def test_of_all_orders(self):
        for program, sizes in cases(3) + [(Program.of(text), sizes) for text in (FORKED, APART, TWINS)
                                          for sizes in some_sizes(Program.of(text))]:
            least = min(max(sums_by(program, sizes, straight(order))) for order in orders(program))
            self.same(least_peak(program, sizes), least)
            self.same(max(sums_by(program, sizes, straight(best_order(program, sizes)))), least)

    def test_in_each_way(self):
        for program in few_programs():
            for sizes in some_sizes(program):
                self.asked(least_peak, program, sizes)
                order = self.asked(best_order, program, sizes)
                self.same(is_best_order(program, sizes, order), True)

    def test_things(self):
        for program in few_programs():
            for sizes in some_sizes(program):
                least = min(max(sums_by(program, sizes, straight(order))) for order in orders(program))
                right = [order for order in orders(program)
                         if max(sums_by(program, sizes, straight(order))) == least]
                others = list(permutations(program.steps)) + list(product(program.steps, repeat=len(program)))
                self.tells(is_best_order, [program, sizes], right, others)


class TestTenSteps(Case):

    def test_each_function(self):
        for program in ten_programs():
            for sizes in (tuple(range(1, 11)), (0,) * 10, (HUGE // 10,) * 10, (7, 1, 0, 9, 3, 3, 8, 2, 6, 4)):
                sums = [sum_by(program, sizes, some) for some in all_lives(program)]
                self.same(worst(program, sizes), max(sums))
                deeds = deeds_to_worst(program, sizes)
                self.same((is_deeds_to_worst(program, sizes, deeds), sums_by(program, sizes, deeds)[-1]),
                          (True, max(sums)))
                lot = heaviest_lot(program, sizes)
                self.same((is_heaviest_lot(program, sizes, lot), sum_of(program, sizes, lot)),
                          (True, lots_of(program, sizes)))
                self.assertGreaterEqual(lots_of(program, sizes), max(sums))
                self.same(tight(program, sizes),
                          tuple(value for value in TEN if spare(program, sizes, value) == 0))
                order = best_order(program, sizes)
                run = run_of(program, order)
                self.same((is_best_order(program, sizes, order), peak(program, run, sizes)),
                          (True, least_peak(program, sizes)))
                self.same(first_peak(program, run, sizes), sums_by(program, sizes, run).index(peak(program, run, sizes)))

    def test_all_sizes_together_at_the_bound(self):
        program = Program(tuple(TEN))
        self.answers(HUGE, worst, program, (HUGE,) + (0,) * 9)
        self.answers(HUGE, least_peak, program, (HUGE,) + (0,) * 9)
        self.answers(HUGE, peak, program, straight(TEN), (HUGE,) + (0,) * 9)
        self.answers(tuple(TEN), tight, program, (0,) * 10)

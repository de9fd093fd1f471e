"""[15], and what [2] and [3] say of it: steps that run one by one in a told order."""

from itertools import combinations, permutations, product

from seatsahead import errors, layouts, programs, straight as module
from seatsahead.errors import NoPlace, OtherSteps
from seatsahead.programs import Program
from seatsahead.sizes import lots_of, peak, worst
from seatsahead.runs import run_of
from seatsahead.straight import (
    alive_at, elder_below, first_free, is_order, is_together_apart, lives, orders_factor, peak_of, room_of,
    straight_program, together, together_apart)
from tests.cases import Case
from tests.walks import (
    APART, FORKED, ends_of, few_programs, layouts_by_walk, lots_by_walk, meets, moments_by_walk, orders, small_programs,
    some_sizes, subsets, sum_by, ten_programs)

EXAMPLES = '''
    >>> wide = Program.of("a b c d | a b; c d | - | -")
    >>> is_order(wide, ("a", "b", "c", "d")), is_order(wide, ("b", "a", "c", "d")), lives(wide, ("a", "c", "b", "d")), lives(wide, ("a", "b", "c", "d")), alive_at(wide, ("a", "c", "b", "d"), 2), together(wide, ("a", "b", "c", "d"))
    (True, False, ((0, 2), (2, 2), (1, 3), (3, 3)), ((0, 1), (1, 1), (2, 3), (3, 3)), ('a', 'b', 'c'), (('a', 'b'), ('c', 'd')))
    >>> peak_of(wide, ("a", "c", "b", "d"), (1, 2, 4, 8)), peak_of(wide, ("a", "b", "c", "d"), (1, 2, 4, 8)), orders_factor(wide, ("a", "c", "b", "d"), ("a", "b", "c", "d")), orders_factor(wide, ("a", "b", "c", "d"), ("a", "c", "b", "d"))
    (12, 12, 2, 1)
    >>> straight_program(wide, ("a", "b", "c", "d")).waits, len(elder_below(wide, ("a", "c", "b", "d"))), elder_below(Program.of("a b | a b | - | -"), ("a", "b"))
    ((('a', 'b'), ('b', 'c'), ('c', 'd')), 6, (('a', 'b'),))
    >>> first_free(wide, ("a", "c", "b", "d"), (3, 2, 4, 5)), room_of(wide, ("a", "c", "b", "d"), (3, 2, 4, 5)), first_free(wide, ("a", "b", "c", "d"), (3, 2, 4, 0)), is_together_apart(wide, ("a", "c", "b", "d"), ("a", "b", "c", "d"), ("a", "c"))
    ((0, 7, 3, 7), 12, (0, 3, 0, 0), True)
    >>> alive_at(wide, ("a", "b", "c", "d"), 4)
    raises NoPlace(number=4)
    >>> peak_of(wide, ("a", "b", "c", "d"), (1, 2))
    raises OtherSteps()
'''
FIVE = (APART, FORKED, "a b c d e | a d; b e; c d | b d | -", "a b c d e | - | - | b", "a b c d e | a e; b c | - | d")


def programs_of_five():
    return [Program.of(text) for text in FIVE]


def some_programs():
    return [*small_programs()[::3], *programs_of_five()]


def with_orders():
    """Programs with some of their ORDERS."""
    for program in some_programs():
        every = orders(program)
        for order in every[::max(1, len(every) // 5)]:
            yield program, order


def few_with_orders():
    return [(program, orders(program)[-1]) for program in [*few_programs(), *programs_of_five()[:2]]]


def last_use(program, order, value):
    """The number of the last place at which this value lives."""
    if value in program.kept:
        return len(order) - 1
    return max(order.index(step) for step in (value, *[other for one, other in program.reads if one == value]))


def alive(program, order, place):
    """The values that live at this place, from what is begun and what is still needed there."""
    begun = order[:place + 1]
    return tuple(sorted(value for value in begun if last_use(program, order, value) >= place))


def pairs_by_place(program, order):
    """The pairs of values that live at one place."""
    return sorted({pair for place in range(len(order)) for pair in combinations(alive(program, order, place), 2)})


def peak_by_place(program, order, sizes):
    return max([sum_by(program, sizes, alive(program, order, place)) for place in range(len(order))], default=0)


def laid(program, order, sizes):
    """Each value on the least number such that no number is taken twice, tried one by one."""
    size = dict(zip(program.steps, sizes))
    near = set(pairs_by_place(program, order))
    begins = {}
    for value in order:
        taken = set()
        for other, begin in begins.items():
            if (value, other) in near or (other, value) in near:
                taken |= set(range(begin, begin + size[other]))
        begin = 0
        while taken & set(range(begin, begin + size[value])):
            begin += 1
        begins[value] = begin
    return tuple(begins[value] for value in program.steps)


def apart_sets(program, one, other):
    """All sets of values that are together two by two by one and not by other."""
    by_one, by_other = set(pairs_by_place(program, one)), set(pairs_by_place(program, other))
    return [some for some in subsets(program.steps)
            if all(pair in by_one and pair not in by_other for pair in combinations(some, 2))]


class TestOrders(Case):

    def test_the_examples(self):
        self.examples(EXAMPLES, {**vars(errors), **vars(programs), **vars(module)})

    def test_against_all_orders(self):
        for program in some_programs():
            right = set(orders(program))
            for order in permutations(program.steps):
                self.same(is_order(program, order), order in right)

    def test_things(self):
        for program in [*few_programs(), Program.of(APART)]:
            right = orders(program)
            others = [*permutations(program.steps), *[order[1:] for order in right], *[order + order for order in right]]
            self.tells(is_order, [program], right, others[:200])

    def test_lives_place_by_place(self):
        for program, order in with_orders():
            told = lives(program, order)
            self.same(len(told), len(program))
            for place in range(len(order)):
                want = alive(program, order, place)
                self.same(alive_at(program, order, place), want)
                spans = zip(program.steps, told)
                self.same(tuple(value for value, (first, last) in spans if first <= place <= last), want)

    def test_lives_of_kept_values_and_of_those_nobody_reads(self):
        program = Program.of("a b c d | a b; a c | b d | b")
        self.answers(((0, 3), (1, 3), (3, 3), (2, 2)), lives, program, ("a", "b", "d", "c"))
        self.answers(((0, 2), (1, 3), (2, 2), (3, 3)), lives, program, ("a", "b", "c", "d"))

    def test_no_place(self):
        for program, order in few_with_orders():
            for place in (-10 ** 30, -1, len(program), len(program) + 1, 10 ** 30):
                self.never(NoPlace, {"number": place}, alive_at, program, order, place)

    def test_together(self):
        for program, order in with_orders():
            self.same(together(program, order), tuple(pairs_by_place(program, order)))

    def test_in_each_way(self):
        for program, order in few_with_orders():
            self.asked(lives, program, order)
            self.answers(tuple(pairs_by_place(program, order)), together, program, order)
            self.asked(straight_program, program, order)
            self.asked(elder_below, program, order)
            for place in range(len(order)):
                self.answers(alive(program, order, place), alive_at, program, order, place)

    def test_no_steps(self):
        program = Program(())
        self.tells(is_order, [program], [()])
        for call in (lives, together, elder_below):
            self.answers((), call, program, ())
        self.assertEqual(straight_program(program, ()), program)
        self.answers(0, peak_of, program, (), ())
        self.answers((), first_free, program, (), ())
        self.answers(0, room_of, program, (), ())
        self.answers(0, orders_factor, program, (), ())
        self.answers((), together_apart, program, (), ())
        self.tells(is_together_apart, [program, (), ()], [()])
        for call in (peak_of, first_free, room_of):
            self.never(OtherSteps, {}, call, program, (), (1,))


class TestStraightPrograms(Case):

    def test_what_stays_and_what_is_new(self):
        for program, order in with_orders():
            told = straight_program(program, order)
            self.same((told.steps, told.reads, told.kept), (program.steps, program.reads, program.kept))
            self.same(told.waits, tuple(sorted({*program.waits, *zip(order, order[1:])})))

    def test_what_can_meet_in_it(self):
        for program, order in with_orders():
            told = straight_program(program, order)
            pairs = pairs_by_place(program, order)
            for pair in combinations(program.steps, 2):
                self.same(meets(told, *pair), pair in pairs)

    def test_each_lot_is_a_moment_set(self):
        for program, order in with_orders():
            told = straight_program(program, order)
            self.same(lots_by_walk(told), moments_by_walk(told))

    def test_the_program_handed_in_stays(self):
        for program, order in few_with_orders():
            text = program.text
            straight_program(program, order)
            self.same(program.text, text)


class TestPeaks(Case):

    def test_place_by_place(self):
        for program, order in with_orders():
            for sizes in some_sizes(program):
                self.same(peak_of(program, order, sizes), peak_by_place(program, order, sizes))

    def test_in_other_words(self):
        for program, order in with_orders():
            told = straight_program(program, order)
            for sizes in some_sizes(program):
                want = peak_of(program, order, sizes)
                self.same((worst(told, sizes), lots_of(told, sizes)), (want, want))
                self.same(peak(program, run_of(program, order), sizes), want)

    def test_in_each_way(self):
        for program, order in few_with_orders():
            for sizes in some_sizes(program):
                self.answers(peak_by_place(program, order, sizes), peak_of, program, order, sizes)

    def test_other_steps(self):
        for program, order in few_with_orders():
            for many in {0, len(program) - 1, len(program) + 1, 2 * len(program)} - {-1, len(program)}:
                for call in (peak_of, first_free, room_of):
                    self.never(OtherSteps, {}, call, program, order, (1,) * many)


class TestElderBelow(Case):

    def test_is_a_layout_by_the_order(self):
        for program, order in with_orders():
            told = elder_below(program, order)
            self.assertTrue(layouts.is_layout(program, told))
            want = [pair for pair in combinations(order, 2) if meets(program, *pair)]
            self.same(told, tuple(sorted(want)))

    def test_is_one_of_all(self):
        for program, order in few_with_orders():
            if len(program) <= 4:
                self.assertIn(elder_below(program, order), layouts_by_walk(program))


class TestFirstFree(Case):

    def small_sizes(self, program):
        yield from ((0,) * len(program), (1,) * len(program), tuple(range(1, len(program) + 1)))
        for number in range(8):
            yield tuple((number * 5 + place * (number + 3)) % 7 for place in range(len(program)))

    def test_as_laid_by_hand(self):
        for program, order in with_orders():
            for sizes in self.small_sizes(program):
                want = laid(program, order, sizes)
                self.same(first_free(program, order, sizes), want)
                self.same(room_of(program, order, sizes), max(map(sum, zip(want, sizes)), default=0))

    def test_all_small_sizes(self):
        for text, order in (("a b c d e | a d; b e; c d | b d | -", "abcde"), ("a b c d e | a e; b c | - | d", "badce")):
            program = Program.of(text)
            for sizes in product((0, 1, 3), repeat=5):
                self.same(first_free(program, tuple(order), sizes), laid(program, tuple(order), sizes))

    def test_in_each_way(self):
        for program, order in few_with_orders():
            for sizes in list(self.small_sizes(program))[2:7]:
                self.answers(laid(program, order, sizes), first_free, program, order, sizes)
                self.asked(room_of, program, order, sizes)

    def test_no_two_that_are_together_have_a_number_in_common(self):
        for program, order in with_orders():
            for sizes in some_sizes(program):
                begins = dict(zip(program.steps, first_free(program, order, sizes)))
                ends = {value: begins[value] + size for value, size in zip(program.steps, sizes)}
                for one, other in pairs_by_place(program, order):
                    self.assertLessEqual(min(ends[one], ends[other]), max(begins[one], begins[other]))
                self.same(room_of(program, order, sizes), max(ends.values(), default=0))
                self.assertGreaterEqual(room_of(program, order, sizes), peak_of(program, order, sizes))

    def test_great_ones_and_gaps(self):
        program = Program.of("a b c d | - | - | a c")
        order = ("a", "b", "c", "d")
        great = 10 ** 29
        self.answers((0, great, great, 2 * great), first_free, program, order, (great, 5, great, great))
        self.answers(3 * great, room_of, program, order, (great, 5, great, great))
        # d fits below c, where b was, but only if it is no greater.
        gap = Program.of("a b c d | b c | - | a c")
        self.answers((0, 2, 5, 2), first_free, gap, order, (2, 3, 4, 3))
        self.answers((0, 2, 5, 9), first_free, gap, order, (2, 3, 4, 4))

    def test_a_value_of_size_0_takes_no_number(self):
        program = Program.of("a b c | - | - | a b c")
        order = ("a", "b", "c")
        self.answers((0, 0, 3), first_free, program, order, (3, 0, 2))
        self.answers((0, 0, 0), first_free, program, order, (0, 0, 2))
        self.answers((0, 3, 0), first_free, program, order, (3, 2, 0))
        self.answers(5, room_of, program, order, (3, 2, 0))
        self.answers(0, room_of, program, order, (0, 0, 0))


class TestTwoOrders(Case):

    def couples(self):
        for program in [*small_programs()[::9], *programs_of_five()]:
            every = orders(program)
            some = every[::max(1, len(every) // 4)]
            yield from ((program, one, other) for one, other in product(some, repeat=2))

    def test_against_all_sets(self):
        for program, one, other in self.couples():
            known = apart_sets(program, one, other)
            most = max(map(len, known))
            self.same(orders_factor(program, one, other), most)
            told = together_apart(program, one, other)
            self.assertIn(told, known)
            self.same((len(told), is_together_apart(program, one, other, told)), (most, True))

    def test_by_sizes(self):
        for program, one, other in list(self.couples())[::3]:
            factor = orders_factor(program, one, other)
            for sizes in [*some_sizes(program), *list(product(range(3), repeat=len(program)))[::5]]:
                most = factor * peak_by_place(program, other, sizes)
                self.assertLessEqual(peak_by_place(program, one, sizes), most)
            # One unit for each of those that are together by one and apart by other.
            told = together_apart(program, one, other)
            sizes = tuple(int(value in told) for value in program.steps)
            self.same(peak_by_place(program, one, sizes), factor * peak_by_place(program, other, sizes))

    def test_an_order_with_itself(self):
        for program, order in with_orders():
            self.same(orders_factor(program, order, order), min(1, len(program)))

    def test_in_each_way(self):
        for program, one, other in list(self.couples())[::11]:
            self.asked(orders_factor, program, one, other)
            self.asked(together_apart, program, one, other)

    def test_things(self):
        for program, one, other in list(self.couples())[::7]:
            known = apart_sets(program, one, other)
            right = [some for some in known if len(some) == max(map(len, known))]
            self.tells(is_together_apart, [program, one, other], right, [*known, *subsets(program.steps)])


def two_orders(program):
    """An ORDER with the lesser NAMEs first, as far as can be, and one with the greater ones first."""
    ahead = {step: sum(other == step for _, other in ends_of(program)) for step in program.steps}
    for sign in (1, -1):
        yield tuple(sorted(program.steps, key=lambda step: (ahead[step], sign * ord(step))))


class TestTenSteps(Case):

    def test_each_function(self):
        for program in ten_programs():
            first, second = two_orders(program)
            for one, other in ((first, second), (second, first), (first, first)):
                self.same(is_order(program, one), True)
                told = together_apart(program, one, other)
                self.same(len(told), orders_factor(program, one, other))
                self.same(is_together_apart(program, one, other, told), True)
                self.same(together(program, one), tuple(pairs_by_place(program, one)))
                self.assertTrue(layouts.is_layout(program, elder_below(program, one)))
                for sizes in (tuple(range(10)), (3, 0, 2, 7, 1, 1, 5, 0, 4, 6), (10 ** 29,) * 10):
                    self.same(peak_of(program, one, sizes), peak_by_place(program, one, sizes))
                    self.assertGreaterEqual(room_of(program, one, sizes), peak_of(program, one, sizes))
                small = (3, 0, 2, 7, 1, 1, 5, 0, 4, 6)
                self.same(first_free(program, one, small), laid(program, one, small))
                straight = straight_program(program, one)
                self.same(worst(straight, small), peak_of(program, one, small))

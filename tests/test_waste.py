"""[10], and what [2] and [3] say of it: waste."""

from fractions import Fraction
from itertools import combinations, permutations, product

from seatsahead import errors, layouts, programs, waste as module
from seatsahead.errors import BadLayout
from seatsahead.layouts import a_layout, great_piles
from seatsahead.programs import Program
from seatsahead.waste import (
    as_much, best_layout, is_partings, is_row_in_pile, is_sizes_against, least_waste, no_waste, partings, row_in_pile,
    sizes_against, step_over, waste)
from tests.cases import Case
from tests.walks import (
    APART, FORKED, FREE, TWINS, few_programs, great, layouts_by_walk, lots_by_walk, meets, need_by, partings_of,
    piles_by_walk, rows_by_walk, small_programs, some_sizes, sum_by, ten_programs)

EXAMPLES = '''
    >>> program = Program.of("a b c d | a b; a c; b d; c d | - | d")
    >>> line, clean = (("a", "b"), ("a", "c"), ("b", "c"), ("b", "d"), ("c", "d")), (("a", "b"), ("a", "c"), ("b", "c"), ("d", "b"), ("d", "c"))
    >>> waste(program, line), waste(program, clean), no_waste(program, line), no_waste(program, clean), waste(Program(()), ()), step_over(program, line), step_over(program, clean), least_waste(program), waste(program, best_layout(program))
    (2, 1, False, True, 0, ('a', 'b', 'd'), None, 1, 1)
    >>> is_row_in_pile(program, line, 1, row_in_pile(program, line, 1)), is_row_in_pile(program, line, 1, (("a", "d"), ("a", "b", "c", "d"))), is_row_in_pile(program, line, 1, (("a", "d"), ("a", "d"))), row_in_pile(program, line, 2), row_in_pile(program, clean, 1)
    (True, True, False, None, None)
    >>> partings(program, clean, 1), partings(program, line, 1), is_partings(program, line, 2, partings(program, line, 2)), is_partings(program, line, 2, ((("a", "b", "c", "d"), (("a",), ("b", "c", "d"))),))
    (((('a', 'b', 'c'), (('a', 'b', 'c'),)), (('d', 'b', 'c'), (('b', 'c', 'd'),))), None, True, True)
    >>> is_sizes_against(program, line, 1, (1, 2, 3, 4)), is_sizes_against(program, line, 1, (0, 1, 1, 0)), is_sizes_against(program, line, 1, sizes_against(program, line, 1)), sizes_against(program, line, 2), sizes_against(program, clean, 1)
    (True, False, True, None, None)
    >>> as_much(program, line, (1, 2, 3, 4)), as_much(program, clean, (1, 2, 3, 4)), as_much(program, line, (10 ** 29, 0, 0, 10 ** 29)), as_much(program, line, (0, 0, 0, 0))
    ((10, 9), (1, 1), (2, 1), None)
    >>> twins = Program.of("a b c x y z | - | a y; a z; b x; b z; c x; c y | -")
    >>> least_waste(twins), how_many_layouts(twins), waste(twins, best_layout(twins))
    (2, 204, 2)
    >>> waste(program, (("a", "d"),))
    raises BadLayout(place=0)
'''
HOUSE = "a b c d | a b; a c; b d; c d | - | d"
LINE = (("a", "b"), ("a", "c"), ("b", "c"), ("b", "d"), ("c", "d"))
# Of five STEPS, with three values that never meet and that a PILE can have.
LADDER = "a b c d e | a b; b c; c d; d e | - | -"


def cases(every):
    found = [(program, layout) for program in small_programs() for layout in layouts_by_walk(program)]
    ladder = Program.of(LADDER)
    return found[::every] + [(ladder, layout) for layout in layouts_by_walk(ladder)[::1 + every // 20]] + [
        (Program.of(text), layout) for text in (FORKED, APART) for layout in layouts_by_walk(Program.of(text))[::40]]


def waste_by(program, layout):
    """The most values of a PILE that are a ROW."""
    rows = rows_by_walk(program)
    return max(len(row) for pile in piles_by_walk(program, layout) for row in rows if set(row) <= set(pile))


def lots_by(program, sizes):
    return max(sum_by(program, sizes, lot) for lot in lots_by_walk(program))


class TestWaste(Case):

    def test_the_examples(self):
        self.examples(EXAMPLES, {**vars(errors), **vars(programs), **vars(layouts), **vars(module)})

    def test_against_all_piles_and_rows(self):
        for program, layout in cases(2):
            most = waste_by(program, layout)
            self.same(waste(program, layout), most)
            self.same(no_waste(program, layout), most <= 1)

    def test_what_it_means(self):
        for program, layout in cases(9):
            most = waste(program, layout)
            reached = [0]
            for sizes in [*some_sizes(program), *product((0, 1), repeat=len(program))]:
                height, lots = need_by(program, layout, sizes), lots_by(program, sizes)
                self.assertLessEqual(height, most * lots)
                reached += [Fraction(height, lots)] if lots else []
            self.assertEqual(max(reached), most)

    def test_step_over(self):
        for program, layout in cases(2):
            triples = [(low, high, top) for low, high, top in permutations(program.steps, 3)
                       if (low, high) in layout and (high, top) in layout and not meets(program, low, top)]
            self.same(step_over(program, layout), min(triples, default=None))
            self.same(step_over(program, layout) is None, no_waste(program, layout))

    def test_in_each_way(self):
        for program, layout in cases(41):
            self.answers(waste_by(program, layout), waste, program, layout)
            self.answers(waste_by(program, layout) <= 1, no_waste, program, layout)
            self.asked(step_over, program, layout)

    def test_a_program_without_values(self):
        program = Program(())
        self.answers(0, waste, program, ())
        self.answers(True, no_waste, program, ())
        self.answers(None, step_over, program, ())
        self.answers(None, as_much, program, (), ())
        self.answers((), best_layout, program)
        self.answers(0, least_waste, program)
        for number in (0, 1, 10 ** 30):
            self.answers(None, row_in_pile, program, (), number)
            self.answers((((), ()),), partings, program, (), number)
            self.answers(None, sizes_against, program, (), number)
            self.tells(is_row_in_pile, [program, (), number], [])
            self.tells(is_partings, [program, (), number], [(((), ()),)])
            self.tells(is_sizes_against, [program, (), number], [])

    def test_the_layout_is_checked_first(self):
        program = Program.of(HOUSE)
        for layout, place in (((("a", "d"),), 0), (LINE[:4], 4), ((*LINE, ("d", "a")), 5), ((), 0)):
            for call, rest in ((waste, ()), (no_waste, ()), (step_over, ()), (row_in_pile, (0,)), (partings, (0,)),
                               (sizes_against, (10 ** 30,)), (as_much, ((1, 1, 1, 1),)), (as_much, ((),)),
                               (is_row_in_pile, (0, 7)), (is_partings, (0, [])), (is_sizes_against, (0, "a"))):
                self.never(BadLayout, {"place": place}, call, program, layout, *rest)


class TestRows(Case):

    def test_told_exactly_where_there_are_any(self):
        for program, layout in cases(3):
            most = waste_by(program, layout)
            for number in range(most + 2):
                told = row_in_pile(program, layout, number)
                self.same(told is not None, number < most)
                self.same(is_row_in_pile(program, layout, number, told), number < most)
                if told is not None:
                    row, pile = told
                    self.assertIn(row, rows_by_walk(program))
                    self.assertIn(pile, piles_by_walk(program, layout))
                    self.same((len(row), set(row) <= set(pile)), (number + 1, True))
            self.same(row_in_pile(program, layout, 10 ** 30), None)

    def test_in_each_way(self):
        for program, layout in cases(61):
            for number in (0, 1, 2, 10 ** 30):
                self.asked(row_in_pile, program, layout, number)

    def test_things(self):
        for program, layout in cases(151):
            rows, piles = rows_by_walk(program), piles_by_walk(program, layout)
            for number in range(3):
                right = [(row, pile) for row in rows for pile in piles if len(row) == number + 1 and set(row) <= set(pile)]
                others = [(row[::-1], pile) for row, pile in right] + list(product(rows, piles))
                self.tells(is_row_in_pile, [program, layout, number], right, others)


class TestPartings(Case):

    def right(self, program, layout, number):
        """All partings of all great PILES into at most so many LOTS."""
        lots = lots_by_walk(program)
        choices = []
        for pile in great(piles_by_walk(program, layout)):
            choices.append([(pile, parting) for parting in partings_of(tuple(sorted(pile)))
                            if len(parting) <= number and set(parting) <= set(lots)])
        return list(product(*choices))

    def test_told_exactly_where_there_are_any(self):
        for program, layout in cases(7):
            most = waste_by(program, layout)
            for number in range(most + 2):
                told = partings(program, layout, number)
                self.same(told is not None, most <= number)
                self.same(is_partings(program, layout, number, told), most <= number)
                if told is not None:
                    self.check(program, layout, number, told)

    def check(self, program, layout, number, told):
        self.same([pile for pile, _ in told], great(piles_by_walk(program, layout)))
        for pile, parting in told:
            self.same(tuple(sorted(set(parting))), parting)
            self.same(sorted(value for lot in parting for value in lot), sorted(pile))
            self.assertLessEqual(len(parting), number)
            self.assertLessEqual(set(parting), set(lots_by_walk(program)) - {()})

    def test_in_each_way(self):
        for program, layout in cases(61):
            for number in (0, 1, 2, 10 ** 30):
                told = self.asked(partings, program, layout, number)
                self.same(told in self.right(program, layout, number), told is not None)

    def test_things(self):
        for program, layout in cases(151)[::3]:
            for number in (0, 1, 2):
                self.tells(is_partings, [program, layout, number], self.right(program, layout, number))
        for program, layout in cases(151):
            for number in range(4):
                for thing in self.right(program, layout, 9)[::3]:
                    right = all(len(parting) <= number for _, parting in thing)
                    self.says(is_partings, [program, layout, number], thing, right)


class TestSizes(Case):

    def test_told_exactly_where_there_are_any(self):
        for program, layout in cases(3):
            most = waste_by(program, layout)
            for number in range(most + 2):
                told = sizes_against(program, layout, number)
                self.same(told is not None, number < most)
                self.same(is_sizes_against(program, layout, number, told), number < most)
                if told is not None:
                    self.same((len(told), min(told) >= 0), (len(program), True))
                    self.assertGreater(need_by(program, layout, told), number * lots_by(program, told))

    def test_in_each_way(self):
        for program, layout in cases(61):
            for number in (0, 1, 2, 10 ** 30):
                self.asked(sizes_against, program, layout, number)

    def test_things(self):
        for program, layout in cases(151):
            known = [*some_sizes(program), *product(range(3), repeat=len(program)), (10 ** 40,) * len(program)]
            ratios = [(sizes, need_by(program, layout, sizes), lots_by(program, sizes)) for sizes in known]
            for number in (0, 1, 2, 10 ** 30):
                right = [sizes for sizes, height, lots in ratios if height > number * lots]
                self.tells_sizes(program, layout, number, right, known)

    def tells_sizes(self, program, layout, number, right, known):
        """As tells, but bent SIZES may be SIZES against as well."""
        for sizes in known:
            self.says(is_sizes_against, [program, layout, number], sizes, sizes in right)
        for sizes in right[:1]:
            self.by_names(is_sizes_against, [program, layout, number], sizes)
            for place, size in enumerate(sizes):
                for other in (True, None, "1", -1, (size,), [size], ()):
                    bent = (*sizes[:place], other, *sizes[place + 1:])
                    self.says(is_sizes_against, [program, layout, number], bent, False)
            for bent in (list(sizes), sizes[1:], (*sizes, 0), (sizes,), None, True, 0, "", [], ((),)):
                self.says(is_sizes_against, [program, layout, number], bent, False)

    def test_as_much(self):
        for program, layout in cases(5):
            for sizes in some_sizes(program):
                lots = lots_by(program, sizes)
                want = Fraction(need_by(program, layout, sizes), lots) if lots else None
                want = want and (want.numerator, want.denominator)
                self.same(as_much(program, layout, sizes), want)

    def test_as_much_in_each_way(self):
        ladder = Program.of(LADDER)
        layout = tuple(zip("abcd", "bcde"))
        for sizes, want in (((1, 0, 1, 0, 1), (3, 1)), ((2, 2, 2, 2, 2), (5, 2)), ((4, 0, 0, 0, 6), (5, 3)),
                            ((0, 0, 0, 0, 0), None), ((0, 0, 7, 0, 0), (1, 1)), ((10 ** 29, 0, 10 ** 29, 0, 0), (2, 1))):
            self.answers(want, as_much, ladder, layout, sizes)


class TestBest(Case):

    def test_against_all_layouts(self):
        for program in [*small_programs()[::3], Program.of(FORKED), Program.of(APART), Program.of(LADDER)]:
            least = min(waste_by(program, layout) for layout in layouts_by_walk(program))
            self.same(least_waste(program), least)
            layout = best_layout(program)
            self.assertIn(layout, layouts_by_walk(program))
            self.same(waste_by(program, layout), least)

    def test_six_steps(self):
        for text, least in ((TWINS, 2), (FREE, 1), ("a b c d e f | a b; b c; c d; d e; e f | - | -", 1)):
            program = Program.of(text)
            self.answers(least, least_waste, program)
            self.same(waste(program, self.asked(best_layout, program)), least)

    def test_in_each_way(self):
        for program in few_programs():
            self.asked(best_layout, program)
            self.asked(least_waste, program)


class TestTenSteps(Case):

    def test_each_function(self):
        for program in ten_programs():
            layout = a_layout(program)
            most = waste(program, layout)
            self.same(no_waste(program, layout), most == 1)
            self.same(step_over(program, layout) is None, most == 1)
            for number in range(most + 1):
                told = row_in_pile(program, layout, number)
                self.same(is_row_in_pile(program, layout, number, told), number < most)
                sizes = sizes_against(program, layout, number)
                self.same(is_sizes_against(program, layout, number, sizes), number < most)
            self.same(as_much(program, layout, sizes_against(program, layout, most - 1)), (most, 1))

    def test_eight_steps(self):
        names = tuple("abcdefgh")
        for program in (Program(names), Program(names, tuple(zip(names, names[1:]))),
                        Program(names, tuple(combinations(names, 2))[::3], tuple(combinations(names, 2))[::5])):
            layout = a_layout(program)
            most = waste(program, layout)
            for number in range(most + 2):
                told = partings(program, layout, number)
                self.same(is_partings(program, layout, number, told), most <= number)
            self.same([pile for pile, _ in told], great_piles(program, layout))

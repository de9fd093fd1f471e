"""[9], and what [2] and [3] say of it: LAYOUTS."""

from itertools import combinations, permutations, product

from seatsahead import errors, layouts as module, programs
from seatsahead.errors import BadLayout, OtherSteps
from seatsahead.layouts import (
    a_layout, all_layouts, clashes, great_piles, highest_pile, how_many_layouts, is_highest_pile, is_layout, layout_of,
    need, places_by)
from seatsahead.programs import Program
from seatsahead.waste import (
    as_much, is_partings, is_row_in_pile, is_sizes_against, no_waste, partings, row_in_pile, sizes_against, step_over,
    waste)
from tests.cases import Case
from tests.walks import (
    APART, FORKED, FREE, TEN, TWINS, few_programs, great, layouts_by_walk, lots_by_walk, meets, need_by,
    piles_by_walk, small_programs, some_sizes, sum_by, ten_programs)

EXAMPLES = '''
    >>> program = Program.of("a b c d | a b; a c; b d; c d | - | d")
    >>> line, clean = (("a", "b"), ("a", "c"), ("b", "c"), ("b", "d"), ("c", "d")), (("a", "b"), ("a", "c"), ("b", "c"), ("d", "b"), ("d", "c"))
    >>> is_layout(program, line), is_layout(program, clean), is_layout(program, line[:4]), is_layout(program, a_layout(program)), how_many_layouts(program), len(all_layouts(program)), all_layouts(Program(()))
    (True, True, False, True, 18, 18, [()])
    >>> places_by(program, line, (1, 2, 3, 4)), need(program, line, (1, 2, 3, 4)), places_by(program, clean, (1, 2, 3, 4)), need(program, clean, (1, 2, 3, 4)), need(program, line, (0, 0, 10 ** 29, 1)) == 10 ** 29 + 1
    ((0, 1, 3, 6), 10, (0, 4, 6, 0), 9, True)
    >>> great_piles(program, line), great_piles(program, clean), highest_pile(program, clean, (1, 2, 3, 4)), is_highest_pile(program, line, (1, 2, 3, 4), ("a", "c", "d")), is_highest_pile(program, line, (0, 2, 3, 4), ("b", "c", "d"))
    ([('a', 'b', 'c', 'd')], [('a', 'b', 'c'), ('d', 'b', 'c')], ('d', 'b', 'c'), False, True)
    >>> clashes(program, (1, 1, 1, 1), (0, 0, 1, 0)), layout_of(program, (1, 1, 1, 1), (0, 0, 1, 0)), layout_of(program, (1, 1, 1, 1), (0, 1, 2, 0)) == clean, clashes(program, (1, 0, 1, 1), (0, 0, 1, 0))
    ((('a', 'b'), ('b', 'd')), None, True, ())
    >>> need(program, (("a", "b"), ("a", "d")), (1, 1, 1, 1))
    raises BadLayout(place=1)
    >>> need(program, line[:4], (1, 1, 1, 1))
    raises BadLayout(place=4)
    >>> places_by(program, (("a", "b"), ("b", "c"), ("c", "a")), ())
    raises BadLayout(place=2)
    >>> need(program, line, (1, 1))
    raises OtherSteps()
'''
HOUSE = "a b c d | a b; a c; b d; c d | - | d"
LINE = (("a", "b"), ("a", "c"), ("b", "c"), ("b", "d"), ("c", "d"))
# All functions with layout, with what stands behind it.
WITHOUT_SIZES = (
    (great_piles, ()), (waste, ()), (no_waste, ()), (step_over, ()), (row_in_pile, (1,)), (partings, (1,)),
    (sizes_against, (1,)), (is_row_in_pile, (1, None)), (is_partings, (1, ())), (is_sizes_against, (1, (1, 1))),
)
WITH_SIZES = ((need, ()), (places_by, ()), (highest_pile, ()), (is_highest_pile, (("a",),)), (as_much, ()))


def cases(every):
    """Programs, each with a LAYOUT and SIZES, every so many of them."""
    found = [(program, layout) for program in small_programs() for layout in layouts_by_walk(program)]
    return [(program, layout, sizes) for program, layout in found[::every] for sizes in some_sizes(program)]


class TestLayouts(Case):

    def test_the_examples(self):
        self.examples(EXAMPLES, {**vars(errors), **vars(programs), **vars(module)})

    def test_against_all_directions_without_rounds(self):
        for program in [*small_programs(), Program.of(FORKED), Program.of(APART)]:
            known = layouts_by_walk(program)
            self.same(all_layouts(program), known)
            self.same(how_many_layouts(program), len(known))
            self.same(a_layout(program) in known, True)
            for layout in known[::1 + len(known) // 10]:
                self.same(is_layout(program, layout), True)

    def test_all_directions_of_all_pairs(self):
        for program in few_programs():
            known = set(layouts_by_walk(program))
            pairs = list(combinations(program.steps, 2))
            for way in product(*[((), (pair,), (pair[::-1],)) for pair in pairs]):
                layout = tuple(sorted(pair for some in way for pair in some))
                self.same(is_layout(program, layout), layout in known)

    def test_in_each_way(self):
        for program in few_programs():
            known = layouts_by_walk(program)
            self.answers(known, all_layouts, program)
            self.answers(len(known), how_many_layouts, program)
            self.assertIn(self.asked(a_layout, program), known)

    def test_how_many_of_more_steps(self):
        self.answers(720, how_many_layouts, Program.of(FREE))
        self.answers(3628800, how_many_layouts, Program(tuple(TEN)))
        self.answers(2 ** 9, how_many_layouts, Program(tuple(TEN), tuple(zip(TEN, TEN[1:]))))
        self.answers(1, how_many_layouts, Program(tuple(TEN), (), tuple(zip(TEN, TEN[1:]))))
        self.answers(204, how_many_layouts, Program.of(TWINS))
        self.same(all_layouts(Program.of(TWINS)), layouts_by_walk(Program.of(TWINS)))
        self.same(len(all_layouts(Program.of(FREE))), 720)

    def test_things(self):
        for program in few_programs():
            known = layouts_by_walk(program)
            pairs = sorted(permutations(program.steps, 2))[:9]
            others = [some for many in range(4) for some in permutations(pairs, many)]
            self.tells(is_layout, [program], known, others)


class TestWrongLayouts(Case):

    def first_bad(self, program, layout):
        """The place that BadLayout must have, or None, by all LAYOUTS there are."""
        known = [set(some) for some in layouts_by_walk(program)]
        for place in range(len(layout)):
            if layout[place] in layout[:place] or not any(set(layout[:place + 1]) <= some for some in known):
                return place
        return None if set(layout) in known else len(layout)

    def test_all_short_ones(self):
        for text in ("a b c | a b; b c | - | -", "a b c | - | - | -", "a b c | - | a b | -", "- | - | - | -",
                     "a | - | - | a", "a b | - | a b | -", HOUSE):
            program = Program.of(text)
            names = ("z", *program.steps)
            for many in range(5 if len(names) < 5 else 4):
                for layout in combinations(sorted(permutations(names, 2)), many):
                    self.check(program, layout)

    def check(self, program, layout):
        place = self.first_bad(program, layout)
        self.same(is_layout(program, layout), place is None)
        if place is None:
            great_piles(program, layout)
        else:
            self.refuses(BadLayout, {"place": place}, great_piles, program, layout)

    def wrong(self, text, layout, place):
        """Each function refuses this, whatever stands behind it."""
        program = Program.of(text)
        self.same(self.first_bad(program, layout), place)
        for call, rest in WITHOUT_SIZES:
            self.never(BadLayout, {"place": place}, call, program, layout, *rest)
        for call, rest in WITH_SIZES:
            for sizes in ((), (1, 1), (1,) * len(program), (0,) * 9):
                self.never(BadLayout, {"place": place}, call, program, layout, sizes, *rest)

    def test_two_that_can_not_meet(self):
        self.wrong(HOUSE, (("a", "b"), ("a", "d")), 1)
        self.wrong(HOUSE, (("d", "a"),), 0)
        self.wrong("a b | - | a b | -", (("a", "b"),), 0)

    def test_a_name_that_is_no_step(self):
        self.wrong(HOUSE, (("a", "b"), ("a", "z")), 1)
        self.wrong(HOUSE, (*LINE, ("z", "a")), 5)
        self.wrong("- | - | - | -", (("a", "b"),), 0)

    def test_a_pair_again_or_turned_about(self):
        self.wrong(HOUSE, (("a", "b"), ("a", "b")), 1)
        self.wrong(HOUSE, (("a", "b"), ("a", "c"), ("b", "a")), 2)
        self.wrong("a b | - | - | -", (("a", "b"), ("b", "a")), 1)

    def test_a_round(self):
        self.wrong(HOUSE, (("a", "b"), ("b", "c"), ("c", "a")), 2)
        self.wrong("a b c d | - | - | -", (("a", "b"), ("b", "c"), ("c", "d"), ("d", "a")), 3)
        self.wrong("a b c d | - | - | -", (("a", "b"), ("a", "d"), ("b", "c"), ("c", "a"), ("d", "b")), 3)

    def test_pairs_that_are_missing(self):
        self.wrong(HOUSE, LINE[:4], 4)
        self.wrong(HOUSE, LINE[1:], 4)
        self.wrong(HOUSE, (), 0)
        self.wrong("a b | - | - | -", (), 0)

    def test_the_first_of_several(self):
        self.wrong(HOUSE, (("a", "b"), ("a", "d"), ("b", "a"), ("z", "y")), 1)
        self.wrong(HOUSE, (("a", "b"), ("b", "a"), ("d", "a")), 1)
        self.wrong(HOUSE, (("a", "b"), ("b", "c"), ("c", "a"), ("d", "a")), 2)

    def test_as_many_sizes_as_steps(self):
        program = Program.of(HOUSE)
        for sizes in ((), (1, 1, 1), (1, 2, 3, 4, 5), (0,) * 9):
            for call, rest in WITH_SIZES:
                self.never(OtherSteps, {}, call, program, LINE, sizes, *rest)
            for call in (clashes, layout_of):
                self.never(OtherSteps, {}, call, program, sizes, (0, 1, 2, 3))
                self.never(OtherSteps, {}, call, program, (1, 1, 1, 1), sizes)
        for call, rest in WITH_SIZES:
            self.never(OtherSteps, {}, call, Program(()), (), (0,), *rest)
        for call in (clashes, layout_of):
            self.never(OtherSteps, {}, call, Program(()), (1,), (0,))
            self.never(OtherSteps, {}, call, program, (), ())


class TestPlaces(Case):

    def begin(self, program, layout, sizes, value):
        """Where this value begins: the highest end of those below it."""
        size = dict(zip(program.steps, sizes))
        return max([self.begin(program, layout, sizes, low) + size[low] for low, high in layout if high == value],
                   default=0)

    def test_against_all_piles(self):
        for program, layout, sizes in cases(5):
            places = tuple(self.begin(program, layout, sizes, value) for value in program.steps)
            self.same(places_by(program, layout, sizes), places)
            self.same(need(program, layout, sizes), need_by(program, layout, sizes))
            self.same(max(map(sum, zip(places, sizes)), default=0), need_by(program, layout, sizes))

    def test_in_each_way(self):
        for program, layout, sizes in cases(97):
            places = tuple(self.begin(program, layout, sizes, value) for value in program.steps)
            self.answers(places, places_by, program, layout, sizes)
            self.answers(need_by(program, layout, sizes), need, program, layout, sizes)

    def test_never_less_than_a_lot_and_no_two_over_one_another(self):
        for program, layout, sizes in cases(11):
            most = max(sum_by(program, sizes, lot) for lot in lots_by_walk(program))
            self.assertGreaterEqual(need(program, layout, sizes), most)
            self.same(clashes(program, sizes, places_by(program, layout, sizes)), ())

    def test_a_program_without_steps(self):
        program = Program(())
        self.answers((), places_by, program, (), ())
        self.answers(0, need, program, (), ())
        self.answers((), highest_pile, program, (), ())
        self.answers([()], great_piles, program, ())
        self.answers((), clashes, program, (), ())
        self.answers((), layout_of, program, (), ())
        self.answers((), a_layout, program)
        self.answers(1, how_many_layouts, program)
        self.answers([()], all_layouts, program)
        self.tells(is_layout, [program], [()])
        self.tells(is_highest_pile, [program, (), ()], [()])


class TestPiles(Case):

    def test_great_piles(self):
        for program, layout, _ in cases(5)[::5]:
            self.same(great_piles(program, layout), great(piles_by_walk(program, layout)))

    def test_great_piles_of_more_steps(self):
        for text in (FORKED, APART, TWINS):
            program = Program.of(text)
            known = layouts_by_walk(program)
            for layout in known[::1 + len(known) // 20]:
                self.same(great_piles(program, layout), great(piles_by_walk(program, layout)))
        eight = Program(tuple("abcdefgh"))
        self.answers([tuple("abcdefgh")], great_piles, eight, a_layout(eight))

    def test_in_each_way(self):
        for program, layout, sizes in cases(97):
            self.answers(great(piles_by_walk(program, layout)), great_piles, program, layout)
            pile = self.asked(highest_pile, program, layout, sizes)
            self.same(is_highest_pile(program, layout, sizes, pile), True)

    def test_highest_piles(self):
        for program, layout, sizes in cases(5):
            pile = highest_pile(program, layout, sizes)
            self.assertIn(pile, piles_by_walk(program, layout))
            self.same(sum_by(program, sizes, pile), need_by(program, layout, sizes))

    def test_things(self):
        for program, layout, sizes in cases(131):
            piles = piles_by_walk(program, layout)
            right = [pile for pile in piles if sum_by(program, sizes, pile) == need_by(program, layout, sizes)]
            others = [some for many in range(5) for some in product(program.steps, repeat=many)]
            self.tells(is_highest_pile, [program, layout, sizes], right, piles + others)


class TestToldPlaces(Case):

    def units(self, place, size):
        return set(range(place, place + size))

    def clashes_by(self, program, sizes, places):
        lies = {value: self.units(place, size) for value, place, size in zip(program.steps, places, sizes)}
        return tuple((one, other) for one, other in combinations(program.steps, 2)
                     if meets(program, one, other) and lies[one] & lies[other])

    def test_unit_by_unit(self):
        for program in few_programs():
            many = len(program)
            for number in range(60):
                sizes = tuple((number * 7 + place * 5) % 4 for place in range(many))
                places = tuple((number * 3 + place * place) % 5 for place in range(many))
                want = self.clashes_by(program, sizes, places)
                self.same(clashes(program, sizes, places), want)
                if number % 15 == 0:
                    self.answers(want, clashes, program, sizes, places)

    def test_all_of_two_values(self):
        for text, met in (("a b | - | - | -", (("a", "b"),)), ("a b | - | a b | -", ())):
            program = Program.of(text)
            for sizes, places in product(product(range(3), repeat=2), product(range(4), repeat=2)):
                over = self.units(places[0], sizes[0]) & self.units(places[1], sizes[1])
                self.same(clashes(program, sizes, places), met if over else ())

    def test_great_places(self):
        program = Program.of("a b | - | - | -")
        far = 10 ** 29
        self.answers((("a", "b"),), clashes, program, (far + 1, 1), (0, far))
        self.answers((), clashes, program, (far, 1), (0, far))
        self.answers((("a", "b"),), layout_of, program, (far, 1), (0, far))

    def test_layout_of(self):
        for program in few_programs():
            many = len(program)
            for number in range(80):
                sizes = tuple(1 + (number * 7 + place * 5) % 3 for place in range(many))
                places = tuple((number * 3 + place * number % 11) % 9 for place in range(many))
                self.check_layout_of(program, sizes, places, number % 20 == 0)

    def check_layout_of(self, program, sizes, places, each_way):
        at = dict(zip(program.steps, places))
        pairs = [pair for pair in permutations(program.steps, 2) if meets(program, *pair) and at[pair[0]] < at[pair[1]]]
        want = None if self.clashes_by(program, sizes, places) else tuple(sorted(pairs))
        self.same(layout_of(program, sizes, places), want)
        if each_way:
            self.answers(want, layout_of, program, sizes, places)
        if want is not None:
            self.same(is_layout(program, want), True)
            for low, told in zip(places_by(program, want, sizes), places):
                self.assertLessEqual(low, told)

    def test_of_the_places_of_a_layout(self):
        for program, layout, _ in cases(17)[::5]:
            sizes = tuple(range(1, len(program) + 1))
            self.same(layout_of(program, sizes, places_by(program, layout, sizes)), layout)


class TestTenSteps(Case):

    def test_each_function(self):
        for program in ten_programs():
            layout = a_layout(program)
            self.same(is_layout(program, layout), True)
            self.same(is_layout(program, layout[1:]), layout == ())
            sizes = (3, 1, 4, 1, 5, 9, 2, 6, 0, 5)
            places = places_by(program, layout, sizes)
            size = dict(zip(program.steps, sizes))
            at = dict(zip(program.steps, places))
            for value in TEN:
                self.same(at[value], max([at[low] + size[low] for low, high in layout if high == value], default=0))
            height = need(program, layout, sizes)
            self.same(height, max(at[value] + size[value] for value in TEN))
            pile = highest_pile(program, layout, sizes)
            self.same(is_highest_pile(program, layout, sizes, pile), True)
            self.same(sum(size[value] for value in pile), height)
            self.same(clashes(program, sizes, places), ())
            self.same(clashes(program, (1,) * 10, (0,) * 10), tuple(sorted(layout)))
            self.same(layout_of(program, (1,) * 10, tuple(range(10))), layout)
            self.assertGreaterEqual(how_many_layouts(program), 1)

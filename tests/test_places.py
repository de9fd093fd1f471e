"""[12], and what [2] and [3] say of it: places of one size."""

from itertools import combinations, product

from seatsahead import errors, places as module, programs
from seatsahead.places import (
    are_places, fewest_places, in_each_lot, is_lot_against, is_placed, lot_against, placed, places_by_rows)
from seatsahead.programs import Program
from tests.cases import Case
from tests.strange import STRANGE, bent
from tests.walks import (
    APART, FORKED, FREE, TEN, TWINS, few_programs, lots_by_walk, meets, partings_of, rows_by_walk, small_programs,
    subsets, ten_programs)

EXAMPLES = '''
    >>> house = Program.of("a b c d | a b; a c; b d; c d | - | -")
    >>> fewest_places(house), placed(house), are_places(house, (0, 1, 2, 0)), are_places(house, (0, 1, 0, 2)), are_places(house, (7, 1, 2, 9)), are_places(house, places_by_rows(house)), len(set(places_by_rows(house)))
    (3, (('a', 'd'), ('b',), ('c',)), True, False, True, True, 3)
    >>> is_placed(house, (("a", "d"), ("b",), ("c",))), is_placed(house, (("a",), ("b",), ("c",), ("d",))), is_placed(house, (("a", "b"), ("c",), ("d",))), in_each_lot(house)
    (True, False, False, ('b', 'c'))
    >>> lot_against(house, 3), len(lot_against(house, 2)), is_lot_against(house, 2, ("a", "b", "c")), is_lot_against(house, 2, ("a", "b", "d")), is_lot_against(house, 1, ("a", "b", "c")), lot_against(house, -1)
    (None, 3, True, False, False, None)
    >>> kept = Program.of("a b c d | a b; a c; b d; c d | - | a")
    >>> fewest_places(kept), placed(kept), fewest_places(Program(())), placed(Program(())), places_by_rows(Program(())), in_each_lot(kept)
    (4, (('a',), ('b',), ('c',), ('d',)), 0, (), (), ('a', 'b', 'c', 'd'))
'''


def all_programs():
    texts = (FORKED, APART, TWINS, FREE, "a b c d e f | a d; b d; b e; c e | - | -",
             "a b c d e f | - | a d; a e; b d; c d; c f | -")
    return [*small_programs(), *map(Program.of, texts)]


def partings_into_rows(program):
    """All partings of all values into ROWS, each an ascending tuple."""
    rows = set(rows_by_walk(program))
    return [parting for parting in partings_of(program.steps) if set(parting) <= rows]


def least(program):
    return min(map(len, partings_into_rows(program)))


class TestRows(Case):

    def test_the_examples(self):
        self.examples(EXAMPLES, {**vars(errors), **vars(programs), **vars(module)})

    def test_against_all_partings_into_rows(self):
        for program in all_programs():
            many = least(program)
            self.same(fewest_places(program), many)
            self.same(fewest_places(program), max(map(len, lots_by_walk(program))))
            told = placed(program)
            self.assertIn(told, partings_into_rows(program))
            self.same((len(told), is_placed(program, told)), (many, True))

    def test_in_each_way(self):
        for program in few_programs():
            self.answers(least(program), fewest_places, program)
            self.asked(placed, program)
            self.asked(places_by_rows, program)

    def test_things(self):
        for program in [*few_programs(), Program.of(APART)]:
            known = partings_into_rows(program)
            right = [parting for parting in known if len(parting) == least(program)]
            others = known + partings_of(program.steps) + [parting[::-1] for parting in right]
            self.tells(is_placed, [program], right, others + [((), *parting) for parting in known])

    def test_kept_values_share_with_those_ahead_alone(self):
        program = Program.of("a b c | - | a b; b c | -")
        for kept, many in (((), 1), (("c",), 1), (("b",), 2), (("a",), 2), (("a", "b"), 3), (("a", "b", "c"), 3)):
            other = Program(program.steps, program.reads, program.waits, kept)
            self.answers(many, fewest_places, other)
            self.same(len(placed(other)), many)

    def test_a_program_without_steps(self):
        program = Program(())
        self.answers(0, fewest_places, program)
        self.answers((), placed, program)
        self.answers((), places_by_rows, program)
        self.answers((), in_each_lot, program)
        for number in (-1, 0, 1):
            self.answers(None, lot_against, program, number)
            self.tells(is_lot_against, [program, number], [])
        self.tells(is_placed, [program], [()])
        self.tells(are_places, [program], [()])


class TestNumbers(Case):

    def are_right(self, program, thing):
        if not isinstance(thing, tuple) or len(thing) != len(program):
            return False
        if not all(item.__class__ is int and item >= 0 for item in thing):
            return False
        return not any(one == other and meets(program, *pair) for (one, other), pair
                       in zip(combinations(thing, 2), combinations(program.steps, 2)))

    def test_places_by_rows(self):
        for program in all_programs():
            told = places_by_rows(program)
            self.same(self.are_right(program, told), True)
            self.same(are_places(program, told), True)
            self.same(sorted(set(told)), list(range(least(program))))

    def test_all_short_ones(self):
        for program in few_programs():
            for thing in product(range(4), repeat=len(program)):
                self.same(are_places(program, thing), self.are_right(program, thing))

    def test_things(self):
        for program in few_programs():
            told = places_by_rows(program)
            self.by_names(are_places, [program], told)
            great = tuple(10 ** 40 + place for place in told)
            for thing in [*STRANGE, *bent(told), *bent(great), told, great, told + (9,), told[1:]]:
                self.says(are_places, [program], thing, self.are_right(program, thing))


class TestLots(Case):

    def test_lot_against(self):
        for program in all_programs():
            lots = lots_by_walk(program)
            most = max(map(len, lots))
            for number in (-10 ** 30, -2, -1, *range(most + 2), 10 ** 30):
                told = lot_against(program, number)
                self.same(told is not None, 0 <= number < most)
                self.same(is_lot_against(program, number, told), 0 <= number < most)
                if told is not None:
                    self.assertIn(told, lots)
                    self.same(len(told), number + 1)

    def test_lot_against_in_each_way(self):
        for program in few_programs():
            for number in (-10 ** 30, -1, 0, 1, 2, 10 ** 30):
                self.asked(lot_against, program, number)

    def test_things(self):
        for program in [*few_programs(), Program.of(FORKED)]:
            for number in (-2, -1, 0, 1, 2, 3, 10 ** 30):
                right = [lot for lot in lots_by_walk(program) if number >= 0 and len(lot) == number + 1]
                self.tells(is_lot_against, [program, number], right, subsets(program.steps))

    def test_in_each_lot(self):
        for program in all_programs():
            lots = lots_by_walk(program)
            most = max(map(len, lots))
            widest = [lot for lot in lots if len(lot) == most]
            want = tuple(value for value in program.steps if all(value in lot for lot in widest))
            self.same(in_each_lot(program), want)
        for program in few_programs():
            self.asked(in_each_lot, program)

    def test_one_place_less_for_all_others(self):
        for program in few_programs():
            rows = [some for some in rows_by_walk(program) if some]
            for value in program.steps:
                others = tuple(step for step in program.steps if step != value)
                many = min(len(parting) for parting in partings_of(others) if set(parting) <= set(rows))
                self.same(value in in_each_lot(program), many == least(program) - 1)


class TestTenSteps(Case):

    def test_each_function(self):
        for program in ten_programs():
            told = placed(program)
            many = fewest_places(program)
            self.same((len(told), is_placed(program, told)), (many, True))
            numbers = places_by_rows(program)
            self.same((sorted(set(numbers)), are_places(program, numbers)), (list(range(many)), True))
            for number in (-1, 0, many - 1, many):
                lot = lot_against(program, number)
                self.same(lot is not None, 0 <= number < many)
                self.same(is_lot_against(program, number, lot), 0 <= number < many)
            lots = [some for some in combinations(TEN, many) if is_lot_against(program, many - 1, some)]
            self.same(in_each_lot(program), tuple(value for value in TEN if all(value in lot for lot in lots)))

"""[7], and what [2] and [3] say of it: LOTS, ROWS and MOMENT SETS."""

from seatsahead import errors, lots as module, programs
from seatsahead.errors import NoStep
from seatsahead.lots import (
    great_lots, great_moments, great_rows, is_lot, is_moment_set, is_row, is_run_to_moment, most_at_once,
    run_to_moment, widest_lot)
from seatsahead.programs import Program
from tests.cases import Case
from tests.walks import (
    APART, FORKED, TEN, TWINS, all_lives, beginnings, behind, few_programs, great, is_dead, lives_by, lots_by_walk,
    moments_by_walk, rows_by_walk, small_programs, subsets, ten_programs)

EXAMPLES = '''
    >>> program = Program.of("a b c d | a b; a c; b d; c d | - | -")
    >>> great_lots(program), great_rows(program), great_moments(program), most_at_once(program), widest_lot(program)
    ([('a', 'b', 'c'), ('b', 'c', 'd')], [('a', 'd'), ('b',), ('c',)], [('a', 'b', 'c'), ('b', 'c', 'd')], 3, 3)
    >>> forked = Program.of("u v w x y | u x; u y; x v; y w | - | -")
    >>> great_lots(forked), great_moments(forked), most_at_once(forked), widest_lot(forked)
    ([('u', 'v', 'w', 'x', 'y')], [('u', 'v', 'x', 'y'), ('u', 'w', 'x', 'y'), ('v', 'w', 'x', 'y')], 4, 5)
    >>> is_lot(forked, ("u", "v", "w")), is_moment_set(forked, ("u", "v", "w")), is_moment_set(forked, ("u", "v")), is_row(program, ("a", "d")), is_row(forked, ("u",)), run_to_moment(forked, ("u", "v", "w"))
    (True, False, True, True, True, None)
    >>> is_run_to_moment(forked, ("u", "x"), (("begin", "u"), ("end", "u"), ("begin", "x"))), is_run_to_moment(forked, ("u", "v"), run_to_moment(forked, ("u", "v"))), is_run_to_moment(forked, (), ()), great_lots(Program(()))
    (True, True, True, [()])
    >>> is_lot(program, ("a", "x"))
    raises NoStep(name='x')
'''
SETS = (is_lot, is_row, is_moment_set, run_to_moment)


def all_programs():
    return [*small_programs(), Program.of(FORKED), Program.of(APART), Program.of(TWINS)]


class TestSets(Case):

    def test_the_examples(self):
        self.examples(EXAMPLES, {**vars(errors), **vars(programs), **vars(module)})

    def test_against_all_sets_and_all_moments_of_all_runs(self):
        for program in all_programs():
            lots, rows, moments = lots_by_walk(program), rows_by_walk(program), moments_by_walk(program)
            for some in subsets(program.steps):
                self.same(is_lot(program, some), some in lots)
                self.same(is_row(program, some), some in rows)
                self.same(is_moment_set(program, some), some in moments)
            self.same(great_lots(program), great(lots))
            self.same(great_rows(program), great(rows))
            self.same(great_moments(program), great(moments))
            self.same(widest_lot(program), max(map(len, lots)))
            self.same(most_at_once(program), max(map(len, moments)))

    def test_in_each_way(self):
        for program in [*few_programs(), Program.of(FORKED)]:
            lots, rows, moments = lots_by_walk(program), rows_by_walk(program), moments_by_walk(program)
            for some in subsets(program.steps):
                self.answers(some in lots, is_lot, program, some)
                self.answers(some in rows, is_row, program, some)
                self.answers(some in moments, is_moment_set, program, some)
            self.answers(great(lots), great_lots, program)
            self.answers(great(rows), great_rows, program)
            self.answers(great(moments), great_moments, program)
            self.answers(max(map(len, lots)), widest_lot, program)
            self.answers(max(map(len, moments)), most_at_once, program)

    def test_sets_of_one_value_and_the_empty_one(self):
        for program in all_programs():
            for some in [(), *[(value,) for value in program.steps]]:
                for call in (is_lot, is_row, is_moment_set):
                    self.same(call(program, some), True)

    def test_a_program_without_steps(self):
        for call in (great_lots, great_rows, great_moments):
            self.answers([()], call, Program(()))
        for call in (most_at_once, widest_lot):
            self.answers(0, call, Program(()))

    def test_a_lot_that_is_no_moment_set(self):
        for text, some in ((FORKED, ("u", "v", "w")), (APART, ("v", "x", "y"))):
            program = Program.of(text)
            self.answers(True, is_lot, program, some)
            self.answers(False, is_moment_set, program, some)
            self.answers(None, run_to_moment, program, some)
            for place in range(3):
                self.answers(True, is_moment_set, program, some[:place] + some[place + 1:])

    def test_the_first_strange_name(self):
        program = Program.of("a b c | a b | b c | a")
        for some, name in ((("z",), "z"), (("a", "z"), "z"), (("aa", "b"), "aa"), (("a", "b", "bb", "c", "z"), "bb"),
                           (("y", "z"), "y")):
            for call in SETS:
                self.never(NoStep, {"name": name}, call, program, some)
            for thing in ((), None, (("begin", "a"),), 0, [["end"]]):
                self.never(NoStep, {"name": name}, is_run_to_moment, program, some, thing)
            self.never(NoStep, {"name": some[0]}, is_lot, Program(()), some)


class TestBeginnings(Case):

    def test_told_exactly_for_moment_sets(self):
        for program in all_programs():
            moments = moments_by_walk(program)
            for some in subsets(program.steps):
                deeds = run_to_moment(program, some)
                self.same(deeds is not None, some in moments)
                self.same(is_run_to_moment(program, some, deeds), some in moments)
                if deeds is not None:
                    self.assertLessEqual(set(some), set(lives_by(program, *behind(program, deeds))))

    def test_in_each_way(self):
        for program in few_programs():
            for some in subsets(program.steps):
                self.asked(run_to_moment, program, some)

    def test_things(self):
        for program in [*few_programs()[1::4], Program.of("a b c | a b; a c | b c | -")]:
            known = beginnings(program)
            for some in subsets(program.steps)[::2]:
                right = [deeds for deeds, begun, ended in known if set(some) <= set(lives_by(program, begun, ended))]
                self.tells(is_run_to_moment, [program, some], right, [deeds for deeds, _, _ in known])


class TestTenSteps(Case):

    def test_each_function(self):
        for program in ten_programs():
            dead = {(one, other) for one in TEN for other in TEN if is_dead(program, one, other)}
            moments = [set(lives) for lives in all_lives(program)]
            lots, rows, sets = [], [], []
            for some in subsets(program.steps):
                many = sum((one, other) in dead for one in some for other in some)
                lots += [some] if many == 0 else []
                rows += [some] if 2 * many == len(some) * (len(some) - 1) else []
                sets += [some] if any(set(some) <= lives for lives in moments) else []
            self.same(great_lots(program), widest_first(lots))
            self.same(great_rows(program), widest_first(rows))
            self.same(great_moments(program), widest_first(sets))
            self.same((widest_lot(program), most_at_once(program)), (max(map(len, lots)), max(map(len, sets))))
            for some in subsets(program.steps)[::37]:
                self.same((is_lot(program, some), is_row(program, some)), (some in lots, some in rows))
                self.same(is_moment_set(program, some), some in sets)
                self.same(is_run_to_moment(program, some, run_to_moment(program, some)), some in sets)


def widest_first(sets):
    """Those that lie in no other one, found from the widest ones on."""
    found = []
    for some in sorted(sets, key=len, reverse=True):
        if not any(set(some) <= set(other) for other in found):
            found.append(some)
    return sorted(found)

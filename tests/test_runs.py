"""[5], and what [2] and [3] say of it: RUNS."""

from itertools import product

from seatsahead import errors, programs, runs as module
from seatsahead.errors import BadDeed, NoNumber, NoPlace, NoStep
from seatsahead.programs import Program
from seatsahead.runs import (
    how_many_runs, is_beginning, is_run, live, live_at, moments_of, most_live, next_deeds, nth_run, number_of_run,
    run_of)
from tests.cases import Case
from tests.walks import (
    FREE, TEN, beginnings, behind, deeds_behind, few_programs, lives_by, orders, runs, small_programs, ten_programs)

EXAMPLES = '''
    >>> sums = Program(("a", "b", "c"), (("a", "c"), ("b", "c")), (), ("c",))
    >>> run = (("begin", "a"), ("begin", "b"), ("end", "a"), ("end", "b"), ("begin", "c"), ("end", "c"))
    >>> is_run(sums, run), is_beginning(sums, run[:3]), is_run(sums, run[:3]), is_beginning(sums, ()), is_beginning(sums, (("begin", "c"),))
    (True, True, False, True, False)
    >>> next_deeds(sums, run[:2]), next_deeds(sums, run[:4]), next_deeds(sums, run), live(sums, run[:3]), live(sums, run[:5])
    ((('end', 'a'), ('end', 'b')), (('begin', 'c'),), (), ('a', 'b'), ('a', 'b', 'c'))
    >>> [live_at(sums, run, number) for number in (0, 1, 6)], moments_of(sums, run, "a"), moments_of(sums, run, "c"), most_live(sums, run)
    ([(), ('a',), ('c',)], (1, 5), (5, 6), 3)
    >>> run_of(sums, ("b", "a", "c"))
    (('begin', 'b'), ('end', 'b'), ('begin', 'a'), ('end', 'a'), ('begin', 'c'), ('end', 'c'))
    >>> how_many_runs(sums), nth_run(sums, 0) == run, number_of_run(sums, run), number_of_run(sums, run[:3]), how_many_runs(Program(()))
    (6, True, 0, None, 1)
    >>> live(sums, (("begin", "a"), ("begin", "c")))
    raises BadDeed(place=1)
    >>> run_of(sums, ("a", "c", "b"))
    raises BadDeed(place=2)
    >>> live_at(sums, run, 7)
    raises NoPlace(number=7)
    >>> nth_run(sums, 6)
    raises NoNumber(number=6)
'''
SUMS = "a b c | a c; b c | - | c"
DEEDS = [("begin", "a"), ("begin", "b"), ("begin", "c"), ("end", "a"), ("end", "b"), ("end", "c"),
         ("begin", "z"), ("end", "z")]


class TestBeginnings(Case):

    def test_the_examples(self):
        self.examples(EXAMPLES, {**vars(errors), **vars(programs), **vars(module)})

    def test_against_a_walk_through_all_beginnings(self):
        for program in small_programs():
            known = beginnings(program)
            for deeds, begun, ended in known[::1 + len(known) // 40]:
                self.same(is_beginning(program, deeds), True)
                self.same(is_run(program, deeds), len(deeds) == 2 * len(program))
                self.same(next_deeds(program, deeds), tuple(deeds_behind(program, begun, ended)))
                self.same(live(program, deeds), lives_by(program, begun, ended))

    def test_all_tuples_of_at_most_four_deeds(self):
        for text in (SUMS, "a b c | a b | b c | a", "a b c | - | - | -"):
            program = Program.of(text)
            right = {deeds for deeds, _, _ in beginnings(program)}
            for many in range(5):
                for deeds in product(DEEDS, repeat=many):
                    self.same(is_beginning(program, deeds), deeds in right)
                    self.same(is_run(program, deeds), False)

    def test_in_each_way(self):
        for program in few_programs():
            known = beginnings(program)
            for deeds, begun, ended in known[::1 + len(known) // 5]:
                self.answers(tuple(deeds_behind(program, begun, ended)), next_deeds, program, deeds)
                self.answers(lives_by(program, begun, ended), live, program, deeds)

    def test_things(self):
        for program in few_programs()[::3]:
            known = [deeds for deeds, _, _ in beginnings(program)]
            whole = [deeds for deeds in known if len(deeds) == 2 * len(program)]
            self.tells(is_beginning, [program], known)
            self.tells(is_run, [program], whole, known)

    def test_the_place_of_the_first_deed_that_is_not_possible(self):
        program = Program.of(SUMS)
        right = {deeds for deeds, _, _ in beginnings(program)}
        for deeds in product(DEEDS, repeat=4):
            if deeds not in right:
                place = next(at for at in range(4) if deeds[:at + 1] not in right)
                self.refuses(BadDeed, {"place": place}, next_deeds, program, deeds)
                self.refuses(BadDeed, {"place": place}, live, program, deeds)

    def test_each_kind_of_deed_that_is_not_possible(self):
        program = Program.of("a b c | a b | b c | -")
        for text, place in (
            ("+a +a", 1), ("-a", 0), ("+a -a -a", 2), ("+b", 0), ("+a +b", 1), ("+a -a +c", 2), ("+a -a +b +c", 3),
            ("+a -a +a", 2), ("+z", 0), ("-z", 0), ("+a -z +z -a", 1), ("+a -a +b -b +c -c +c", 6),
            ("+a -a +b -b +c -c -c", 6), ("+a +b +a -c", 1),
        ):
            deeds = tuple(({"+": "begin", "-": "end"}[word[0]], word[1:]) for word in text.split())
            self.never(BadDeed, {"place": place}, next_deeds, program, deeds)
            self.never(BadDeed, {"place": place}, live, program, deeds)
            self.same(is_beginning(program, deeds), False)
        self.never(BadDeed, {"place": 0}, live, Program(()), (("begin", "a"),))


class TestRuns(Case):

    def test_orders(self):
        for program in few_programs():
            for order in orders(program):
                run = tuple((deed, step) for step in order for deed in ("begin", "end"))
                self.answers(run, run_of, program, order)

    def test_orders_that_are_not_possible(self):
        program = Program.of("a b c d | a b; c d | b c | -")
        for order, place in (("badc", 0), ("acbd", 2), ("abdc", 4), ("dcba", 0), ("adbc", 2)):
            self.never(BadDeed, {"place": place}, run_of, program, tuple(order))

    def test_moments(self):
        for program in small_programs():
            known = runs(program)
            for run in known[::1 + len(known) // 8]:
                lives = [lives_by(program, *behind(program, run[:many])) for many in range(len(run) + 1)]
                self.same([live_at(program, run, number) for number in range(len(run) + 1)], lives)
                self.same(most_live(program, run), max(map(len, lives)))
                for value in program.steps:
                    at = [number for number, values in enumerate(lives) if value in values]
                    self.same(moments_of(program, run, value), (at[0], at[-1]))
                    self.assertEqual(at, list(range(at[0], at[-1] + 1)))

    def test_moments_in_each_way(self):
        for program in few_programs():
            run = runs(program)[-1]
            lives = [lives_by(program, *behind(program, run[:many])) for many in range(len(run) + 1)]
            self.answers(max(map(len, lives)), most_live, program, run)
            for number, values in enumerate(lives):
                self.answers(values, live_at, program, run, number)
            for number in (-1, -10 ** 30, len(run) + 1, 10 ** 30):
                self.never(NoPlace, {"number": number}, live_at, program, run, number)
            for value in program.steps:
                at = [number for number, values in enumerate(lives) if value in values]
                self.answers((at[0], at[-1]), moments_of, program, run, value)
            self.never(NoStep, {"name": "z"}, moments_of, program, run, "z")

    def test_a_kept_value_lives_to_the_last_moment(self):
        run = (("begin", "a"), ("end", "a"), ("begin", "b"), ("end", "b"))
        self.same(moments_of(Program.of("a b | a b | - | a"), run, "a"), (1, 4))
        self.same(moments_of(Program.of("a b | a b | - | -"), run, "a"), (1, 3))
        self.same(moments_of(Program.of("a b | - | a b | -"), run, "a"), (1, 1))


class TestNumbers(Case):

    def test_there_and_back(self):
        for program in small_programs():
            known = runs(program)
            self.same(how_many_runs(program), len(known))
            every = 1 + len(known) // 15
            for number in sorted({*range(0, len(known), every), len(known) - 1}):
                self.same(nth_run(program, number), known[number])
                self.same(number_of_run(program, known[number]), number)
            self.refuses(NoNumber, {"number": len(known)}, nth_run, program, len(known))
            self.refuses(NoNumber, {"number": -1}, nth_run, program, -1)

    def test_all_numbers_of_four_free_steps(self):
        program = Program.of("a b c d | - | c d | -")
        known = runs(program)
        self.same([nth_run(program, number) for number in range(how_many_runs(program))], known)
        self.same([number_of_run(program, run) for run in known], list(range(len(known))))

    def test_in_each_way(self):
        for program in few_programs():
            known = runs(program)
            self.answers(len(known), how_many_runs, program)
            for number in {0, len(known) // 2, len(known) - 1}:
                self.answers(known[number], nth_run, program, number)
                self.answers(number, number_of_run, program, known[number])
            for number in (-1, -10 ** 30, len(known), 10 ** 30):
                self.never(NoNumber, {"number": number}, nth_run, program, number)

    def test_six_steps_that_wait_for_nothing(self):
        program = Program.of(FREE)
        many = 7484400
        self.answers(many, how_many_runs, program)
        first = tuple(("begin", step) for step in "abcdef") + tuple(("end", step) for step in "abcdef")
        last = tuple(deed for step in "fedcba" for deed in (("begin", step), ("end", step)))
        self.same((nth_run(program, 0), number_of_run(program, first)), (first, 0))
        self.same((nth_run(program, many - 1), number_of_run(program, last)), (last, many - 1))
        found = [nth_run(program, number) for number in range(0, many, 99991)]
        self.assertEqual(found, sorted(found))
        for number, run in zip(range(0, many, 99991), found):
            self.same((is_run(program, run), number_of_run(program, run)), (True, number))
        self.never(NoNumber, {"number": many}, nth_run, program, many)

    def test_deeds_that_are_no_run(self):
        program = Program.of(SUMS)
        run = runs(program)[3]
        for deeds in ((), run[:5], run + run[:1], run[::-1], run + run, (("begin", "z"), *run[1:]), run[:5] + run[:1],
                      (("end", "a"),), (("begin", "c"), ("end", "c")), run[1:], (*run, ("end", "z"))):
            self.answers(None, number_of_run, program, deeds)
        self.answers(0, number_of_run, Program(()), ())
        self.answers(None, number_of_run, Program(()), (("begin", "a"), ("end", "a")))


class TestTenSteps(Case):

    def test_each_function(self):
        for program in ten_programs():
            order = tuple(reversed(TEN)) if ("b", "a") in program.reads else tuple(TEN)
            run = run_of(program, order)
            self.same(run, tuple((deed, step) for step in order for deed in ("begin", "end")))
            self.same((is_run(program, run), is_run(program, run[:-1]), is_beginning(program, run[:-1])),
                      (True, False, True))
            lives = [lives_by(program, *behind(program, run[:many])) for many in range(21)]
            self.same([live_at(program, run, number) for number in range(21)], lives)
            self.same(most_live(program, run), max(map(len, lives)))
            self.same([live(program, run[:many]) for many in range(21)], lives)
            self.same(next_deeds(program, run[:7]), tuple(deeds_behind(program, *behind(program, run[:7]))))
            for value in TEN:
                at = [number for number, values in enumerate(lives) if value in values]
                self.same(moments_of(program, run, value), (at[0], at[-1]))

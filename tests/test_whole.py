"""[1], and the guarantees of the points: from one function to another, by drawn Programs of up to ten STEPS."""

import random
from itertools import combinations, permutations, product

from seatsahead.added import are_rows, forced_ends, is_idle_wait, parted_by, with_rows
from seatsahead.board import Board
from seatsahead.changes import Watch
from seatsahead.compare import (
    alike_worst, is_lot_partings, is_lot_row, is_lot_sizes, is_moment_against, lot_factor, lot_partings, lot_row, lot_row_of,
    lot_sizes, moment_against, never_worse, same_meets)
from seatsahead.desk import answers
from seatsahead.layouts import (
    a_layout, all_layouts, clashes, great_piles, highest_pile, how_many_layouts, is_highest_pile, is_layout, layout_of, need,
    places_by)
from seatsahead.lines import (
    all_clean, barring, forced, is_barring, is_two_lines, layout_of_lines, lines_of_layout, two_lines)
from seatsahead.loss import (
    cover_of, is_cover_of, is_lossy_sizes, is_lost_lot, least_loss, loss_of, lossy_sizes, lost_lot, never_lost)
from seatsahead.lots import (
    great_lots, great_moments, great_rows, is_lot, is_moment_set, is_row, is_run_to_moment, most_at_once, run_to_moment,
    widest_lot)
from seatsahead.meets import (
    all_dead, all_meets, can_meet, chains_for, dead_ahead, is_chains_for, is_run_to_meet, run_to_meet)
from seatsahead.places import (
    are_places, fewest_places, in_each_lot, is_lot_against, is_placed, lot_against, placed, places_by_rows)
from seatsahead.programs import (
    Program, all_ends, readers, surely_ended, with_kept, with_wait, without_wait)
from seatsahead.rounds import Rounds, are_enough, chain_behind, enough_to, least_copies, meets_behind
from seatsahead.runs import (
    how_many_runs, is_beginning, is_run, live, live_at, moments_of, most_live, next_deeds, nth_run, number_of_run, run_of)
from seatsahead.sizes import (
    best_order, deeds_to_worst, first_peak, heaviest_lot, is_best_order, is_deeds_to_worst, is_heaviest_lot, least_peak,
    lots_of, peak, spare, sum_of, tight, worst)
from seatsahead.straight import (
    elder_below, first_free, is_order, is_together_apart, orders_factor, peak_of, room_of, straight_program, together,
    together_apart)
from seatsahead.texts import pairs_from, pairs_text, run_from, run_text, sizes_from, sizes_text, steps_from, steps_text
from seatsahead.waste import (
    as_much, best_layout, is_partings, is_row_in_pile, is_sizes_against, least_waste, no_waste, partings, row_in_pile,
    sizes_against, step_over, waste)
from tests.cases import Case
from tests.walks import drawn_program, drawn_sizes


def drawn(many, most, least=0):
    """So many times a way to draw and a Program of at most so many STEPS."""
    for seed in range(many):
        draw = random.Random(f"{most} {seed}")
        yield draw, drawn_program(draw, draw.randint(least, most))


def drawn_run(draw, program):
    deeds = ()
    while next_deeds(program, deeds):
        deeds += (draw.choice(next_deeds(program, deeds)),)
    return deeds


def drawn_order(draw, program):
    left, order = list(program.steps), ()
    while left:
        free = [step for step in left if not any(surely_ended(program, other, step) for other in left)]
        order += (draw.choice(free),)
        left.remove(order[-1])
    return order


def drawn_layout(draw, program):
    """Below lies who comes first in a drawn line of all values."""
    line = draw.sample(program.steps, len(program))
    pairs = [sorted(pair, key=line.index) for pair in all_meets(program)]
    return tuple(sorted((low, high) for low, high in pairs))


def drawn_set(draw, program):
    return tuple(step for step in program.steps if draw.random() < 0.5)


class TestMeets(Case):
    """(a): who never meets, and what shows it."""

    def test_texts_there_and_back(self):
        for draw, program in drawn(60, 10):
            self.assertEqual(Program.of(program.text), program)
            sizes, run = drawn_sizes(draw, program), drawn_run(draw, program)
            self.same(steps_from(steps_text(program.steps)), program.steps)
            self.same(pairs_from(pairs_text(program.reads)), program.reads)
            self.same(pairs_from(pairs_text(a_layout(program))), a_layout(program))
            self.same((sizes_from(sizes_text(sizes)), run_from(run_text(run))), (sizes, run))

    def test_dead_ahead_and_what_shows_it(self):
        for _, program in drawn(40, 10):
            dead, found = set(all_dead(program)), all_meets(program)
            for one, other in product(program.steps, repeat=2):
                chains = chains_for(program, one, other)
                self.same((chains is not None, dead_ahead(program, one, other)), ((one, other) in dead,) * 2)
                self.same(is_chains_for(program, one, other, chains), (one, other) in dead)
                beginning = run_to_meet(program, one, other)
                self.same(beginning is not None, can_meet(program, one, other))
                self.same(is_run_to_meet(program, one, other, beginning), can_meet(program, one, other))
                self.same(can_meet(program, one, other), not {(one, other), (other, one)} & dead)
                self.same((one, other) in found, one < other and can_meet(program, one, other))
                if not surely_ended(program, one, other) and not surely_ended(program, other, one):
                    self.same(can_meet(program, one, other), True)
            self.assertEqual([pair for pair in dead if pair[0] == pair[1]], [])
            self.assertLessEqual({(one, other) for one, near in dead for far, other in dead if near == far}, dead)
            self.assertLessEqual(dead, set(all_ends(program)))

    def test_runs_and_who_lives(self):
        for draw, program in drawn(40, 8):
            run = drawn_run(draw, program)
            self.same((is_run(program, run), is_beginning(program, run)), (True, True))
            dead = set(all_dead(program))
            most = 0
            for number in range(len(run) + 1):
                lives = live_at(program, run, number)
                most = max(most, len(lives))
                self.same(live(program, run[:number]), lives)
                self.same((is_moment_set(program, lives), is_lot(program, lives)), (True, True))
                self.assertEqual([pair for pair in permutations(lives, 2) if pair in dead], [])
                for value in program.steps:
                    first, last = moments_of(program, run, value)
                    self.same(value in lives, first <= number <= last)
            self.same(most_live(program, run), most)
            self.assertLessEqual(most, most_at_once(program))
            order = drawn_order(draw, program)
            self.same((is_order(program, order), is_run(program, run_of(program, order))), (True, True))

    def test_numbers_of_runs(self):
        for draw, program in drawn(30, 5):
            run = drawn_run(draw, program)
            number = number_of_run(program, run)
            self.same(nth_run(program, number), run)
            self.assertLess(number, how_many_runs(program))

    def test_one_wait_more_or_less(self):
        for draw, program in drawn(30, 7, 2):
            for one, other in permutations(program.steps, 2):
                if not surely_ended(program, other, one):
                    more = with_wait(program, one, other)
                    parted = set(all_meets(program)) - set(all_meets(more))
                    self.same((parted_by(program, one, other), is_idle_wait(program, one, other)),
                              (tuple(sorted(parted)), not parted))
                    self.same(never_worse(more, program), True)
                    if (one, other) not in program.waits:
                        self.assertEqual(without_wait(more, one, other), program)
            for value in program.steps:
                self.same(never_worse(program, with_kept(program, value)), True)
                self.same([step for step in program.steps if (value, step) in program.reads], list(readers(program, value)))


class TestSets(Case):
    """[7] and [8]: LOTS, ROWS, MOMENT SETS, and their sums."""

    def test_lots_and_moments(self):
        for draw, program in drawn(40, 10):
            self.same((most_at_once(program), widest_lot(program)),
                      (max(map(len, great_moments(program))), max(map(len, great_lots(program)))))
            self.assertLessEqual(most_at_once(program), widest_lot(program))
            for some in [drawn_set(draw, program) for _ in range(20)]:
                is_moment = is_moment_set(program, some)
                by_ends = all(self.can_live(program, some, value) for value in some)
                self.same(is_moment, by_ends)
                self.same(is_lot(program, some), all(can_meet(program, *pair) for pair in combinations(some, 2)))
                self.same(is_row(program, some), not any(can_meet(program, *pair) for pair in combinations(some, 2)))
                if is_moment or len(some) <= 2 and is_lot(program, some):
                    self.same((is_lot(program, some), is_moment_set(program, some)), (True, True))
                beginning = run_to_moment(program, some)
                self.same((beginning is not None, is_run_to_moment(program, some, beginning)), (is_moment,) * 2)

    def can_live(self, program, some, value):
        users = (value, *readers(program, value))
        over = all(any(surely_ended(program, user, other) for other in some) for user in users)
        return value in program.kept or not over

    def test_sums(self):
        for draw, program in drawn(40, 9):
            sizes, run = drawn_sizes(draw, program), drawn_run(draw, program)
            self.assertLessEqual(least_peak(program, sizes), peak(program, run, sizes))
            self.assertLessEqual(peak(program, run, sizes), worst(program, sizes))
            self.assertLessEqual(worst(program, sizes), lots_of(program, sizes))
            lives = live_at(program, run, first_peak(program, run, sizes))
            self.same(sum_of(program, sizes, lives), peak(program, run, sizes))
            self.same(is_deeds_to_worst(program, sizes, deeds_to_worst(program, sizes)), True)
            self.same(is_heaviest_lot(program, sizes, heaviest_lot(program, sizes)), True)
            order = best_order(program, sizes)
            self.same((is_best_order(program, sizes, order), is_order(program, order)), (True, True))
            self.same(peak_of(program, order, sizes), least_peak(program, sizes))

    def test_spare_and_tight(self):
        for draw, program in drawn(25, 8, 1):
            sizes = drawn_sizes(draw, program)
            no_spare = tuple(value for value in program.steps if spare(program, sizes, value) == 0)
            self.same(tight(program, sizes), no_spare)
            for at, value in enumerate(program.steps):
                room = spare(program, sizes, value)
                for more, stays in ((room, True), (room + 1, False)):
                    greater = sizes[:at] + (sizes[at] + more,) + sizes[at + 1:]
                    self.same(worst(program, greater) == worst(program, sizes), stays)


class TestLayouts(Case):
    """(b) and (c): LAYOUTS, what they waste, and the Programs that have one without waste."""

    def test_places_and_need(self):
        for draw, program in drawn(50, 8):
            layout, sizes = drawn_layout(draw, program), drawn_sizes(draw, program)
            self.same((is_layout(program, layout), is_layout(program, a_layout(program))), (True, True))
            places = places_by(program, layout, sizes)
            self.same(clashes(program, sizes, places), ())
            height = max([place + size for place, size in zip(places, sizes)], default=0)
            piles = great_piles(program, layout)
            self.same((need(program, layout, sizes), max(sum_of(program, sizes, pile) for pile in piles)), (height,) * 2)
            self.assertGreaterEqual(height, lots_of(program, sizes))
            self.same(is_highest_pile(program, layout, sizes, highest_pile(program, layout, sizes)), True)
            told = tuple(place + draw.choice((0, 0, 3)) for place in places)
            if min(sizes, default=1) > 0 and not clashes(program, sizes, told):
                again = layout_of(program, sizes, told)
                self.assertTrue(all(place <= most for place, most in zip(places_by(program, again, sizes), told)))

    def test_waste(self):
        for draw, program in drawn(50, 8):
            layout = drawn_layout(draw, program)
            lost = waste(program, layout)
            rows = [set(pile) & set(row) for pile in great_piles(program, layout) for row in great_rows(program)]
            self.same(lost, max(map(len, rows)))
            self.same((no_waste(program, layout), step_over(program, layout) is None), (lost <= 1,) * 2)
            self.same(lines_of_layout(program, layout) is not None, lost <= 1)
            for number in range(lost + 2):
                row, against = row_in_pile(program, layout, number), sizes_against(program, layout, number)
                parts = partings(program, layout, number)
                self.same((row is not None, against is not None, parts is None), (number < lost,) * 3)
                self.same((is_row_in_pile(program, layout, number, row), is_sizes_against(program, layout, number, against),
                           is_partings(program, layout, number, parts)), (number < lost, number < lost, number >= lost))
            for sizes in [drawn_sizes(draw, program) for _ in range(5)]:
                self.assertLessEqual(need(program, layout, sizes), lost * lots_of(program, sizes))
                share = as_much(program, layout, sizes)
                if share is not None:
                    self.same(share[0] * lots_of(program, sizes), share[1] * need(program, layout, sizes))

    def test_who_has_a_layout_without_waste(self):
        for draw, program in drawn(60, 10):
            lines, chain = two_lines(program), barring(program)
            self.same((is_two_lines(program, lines), is_barring(program, chain)), (lines is not None, lines is None))
            self.same(chain is None, lines is not None)
            if lines is not None:
                layout = layout_of_lines(program, lines)
                self.same((no_waste(program, layout), lines_of_layout(program, layout)), (True, lines))
                for one, other in list(permutations(program.steps, 2))[::5]:
                    if can_meet(program, one, other):
                        low, high = (one, other) if (one, other) in layout else (other, one)
                        self.assertLessEqual(set(forced(program, low, high)), set(layout))

    def test_all_layouts_of_small_ones(self):
        for _, program in drawn(40, 5):
            layouts = all_layouts(program)
            self.same(len(layouts), how_many_layouts(program))
            clean = [layout for layout in layouts if no_waste(program, layout)]
            self.same(all_clean(program), clean)
            self.same((least_waste(program) <= 1, two_lines(program) is not None), (bool(clean),) * 2)
            self.same(waste(program, best_layout(program)), least_waste(program))
            self.same(least_waste(program), min(waste(program, layout) for layout in layouts))
            self.same(len({lines_of_layout(program, layout) for layout in clean}), len(clean))

    def test_places_of_one_size(self):
        for draw, program in drawn(50, 10):
            many, rows, numbers = fewest_places(program), placed(program), places_by_rows(program)
            self.same((many, len(rows), len(set(numbers))), (widest_lot(program),) * 3)
            self.same((is_placed(program, rows), are_places(program, numbers)), (True, True))
            self.same(clashes(program, (1,) * len(program), numbers), ())
            self.same(sum(map(len, rows)), len(program))
            for number in range(-1, many + 1):
                lot = lot_against(program, number)
                self.same((lot is not None, is_lot_against(program, number, lot)), (0 <= number < many,) * 2)
            widest = [lot for lot in great_lots(program) if len(lot) == many]
            self.same(in_each_lot(program), tuple(value for value in program.steps if all(value in lot for lot in widest)))


class TestLoss(Case):
    """(d): what LOTS lose beside the moments of runs."""

    def test_loss_and_papers(self):
        for draw, program in drawn(40, 9):
            factor, lost = least_loss(program), lost_lot(program)
            self.same((never_lost(program), is_lost_lot(program, lost)), (lost is None, lost is not None))
            self.same(never_lost(program), all(is_moment_set(program, lot) for lot in great_lots(program)))
            if len(program):
                self.same(factor == (1, 1), lost is None)
                self.same(is_lossy_sizes(program, lossy_sizes(program)), True)
            for lot in [*great_lots(program)[:3], heaviest_lot(program, drawn_sizes(draw, program))]:
                top, bottom = loss_of(program, lot)
                self.assertLessEqual(top * factor[1], factor[0] * bottom)
                number, rows = cover_of(program, lot)
                self.same(is_cover_of(program, lot, (number, rows)), True)
                self.same(sum(many for _, many in rows) * bottom, number * top)
            for sizes in [drawn_sizes(draw, program) for _ in range(5)]:
                self.assertLessEqual(lots_of(program, sizes) * factor[1], worst(program, sizes) * factor[0])

    def test_a_factor_grows_with_the_lot(self):
        for draw, program in drawn(25, 8, 2):
            for lot in great_lots(program)[:3]:
                less = tuple(value for value in lot if draw.random() < 0.7)
                one, other = loss_of(program, less), loss_of(program, lot)
                self.assertLessEqual(one[0] * other[1], other[0] * one[1])


class TestCompared(Case):
    """(e): two Programs, told orders, rounds, waits that are put in, what changes."""

    def couples(self, many):
        for draw, one in drawn(many, 8):
            other = drawn_program(draw, len(one))
            renamed = dict(zip(other.steps, one.steps))
            reads, waits = [[(renamed[first], renamed[last]) for first, last in pairs] for pairs in (other.reads, other.waits)]
            yield draw, one, Program(one.steps, reads, waits, [renamed[value] for value in other.kept])

    def test_two_programs(self):
        for draw, one, other in self.couples(60):
            factor = lot_factor(one, other)
            self.same((len(lot_row(one, other)), is_lot_row(one, other, lot_row(one, other))), (factor, True))
            for number in range(factor + 2):
                row, sizes = lot_row_of(one, other, number), lot_sizes(one, other, number)
                parts = lot_partings(one, other, number)
                self.same((row is not None, sizes is not None, parts is None), (number < factor,) * 3)
                self.same((is_lot_sizes(one, other, number, sizes), is_lot_partings(one, other, number, parts)),
                          (number < factor, number >= factor))
                if row is not None:
                    self.same((is_lot(one, row), is_row(other, row), len(row)), (True, True, number + 1))
            against = moment_against(one, other)
            self.same((never_worse(one, other), is_moment_against(one, other, against)), (against is None, against is not None))
            self.same(same_meets(one, other), all_meets(one) == all_meets(other))
            self.same(alike_worst(one, other), great_moments(one) == great_moments(other))
            for sizes in [drawn_sizes(draw, one) for _ in range(5)]:
                self.assertLessEqual(lots_of(one, sizes), factor * lots_of(other, sizes))
                if against is None:
                    self.assertLessEqual(worst(one, sizes), worst(other, sizes))
            if against is not None:
                sizes = tuple(int(value in against) for value in one.steps)
                self.assertGreater(worst(one, sizes), worst(other, sizes))

    def test_told_orders(self):
        for draw, program in drawn(50, 9):
            one, other = drawn_order(draw, program), drawn_order(draw, program)
            straight = straight_program(program, one)
            self.same((all_meets(straight), never_lost(straight)), (together(program, one), True))
            layout = elder_below(program, one)
            self.same(is_layout(program, layout), True)
            told = together_apart(program, one, other)
            factor = orders_factor(program, one, other)
            self.same((len(told), is_together_apart(program, one, other, told)), (factor, True))
            for sizes in [drawn_sizes(draw, program) for _ in range(4)]:
                most = peak_of(program, one, sizes)
                self.same((worst(straight, sizes), lots_of(straight, sizes)), (most, most))
                self.same(peak(program, run_of(program, one), sizes), most)
                self.assertLessEqual(most, worst(program, sizes))
                self.assertLessEqual(most, factor * peak_of(program, other, sizes))
                places = first_free(program, one, sizes)
                self.same(clashes(straight, sizes, places), ())
                self.assertGreaterEqual(room_of(program, one, sizes), most)

    def test_rounds(self):
        for draw, program in drawn(40, 6, 1):
            later = [[(draw.choice(program.steps), draw.choice(program.steps), draw.randint(1, 5)) for _ in range(
                draw.randint(0, 4))] for _ in range(2)]
            rounds = Rounds(program, *later)
            for value in program.steps:
                told = enough_to(rounds, value, 30)
                self.same(told, tuple(number for number in range(1, 31) if are_enough(rounds, value, number)))
                self.same(least_copies(rounds, value, 30), min(told, default=None))
                self.assertEqual([one + other for one in told for other in told if one + other <= 30
                                  and one + other not in told], [])
                # So many copies are enough exactly if no two of one place can meet.
                apart = [gap for gap in range(61) if not meets_behind(rounds, value, value, gap)]
                for number in range(1, 31):
                    self.same(number in told, all(gap in apart for gap in range(number, 61, number)))
            for one, other in product(program.steps, repeat=2):
                self.same(chain_behind(rounds, one, other, 0), surely_ended(program, one, other))
                if not later[0]:
                    self.same(meets_behind(rounds, one, other, 0), can_meet(program, one, other))

    def test_waits_put_in(self):
        for draw, program in drawn(60, 8, 2):
            values = [value for value in program.steps if value not in program.kept]
            rows = tuple(tuple(draw.sample(values, min(len(values), draw.randint(1, 3)))) for _ in range(draw.randint(0, 3)))
            told, right = forced_ends(program, rows), with_rows(program, rows)
            self.same(told is None, right is None)
            if told is None:
                self.same(are_rows(program, rows), False)
                continue
            self.same((are_rows(program, rows), are_rows(right, rows)), (told == (), True))
            self.same(tuple(sorted({*all_ends(program), *told})), all_ends(right))
            self.assertLessEqual(set(right.waits) - set(program.waits), set(told))
            self.same(never_worse(right, program), True)
            for row in rows:
                self.same(is_row(right, tuple(sorted(row))), True)

    def test_what_changes(self):
        for draw, program in drawn(30, 7, 1):
            sizes = drawn_sizes(draw, program)
            watch, board = Watch(program, sizes), Board()
            board.put("now", program), board.put("first", program)
            for _ in range(6):
                one, other = draw.choice(program.steps), draw.choice(program.steps)
                if draw.random() < 0.3:
                    watch.keep(one), board.hold("now", one)
                elif one != other and not surely_ended(watch.program, other, one):
                    watch.wait(one, other), board.let_wait("now", one, other)
                else:
                    watch.free(one, other), board.let_run("now", one, other)
                self.assertEqual(watch.program, board["now"])
                self.same(board.room_for("now", sizes), (worst(watch.program, sizes), watch.most))
                self.same(board.lot_factor("now", "first"), lot_factor(watch.program, program))
            many = board.deeds
            while len(watch):
                watch.back(), board.undo()
                self.assertEqual(watch.program, board["now"])
            self.same((many - board.deeds, watch.told), (6, (lots_of(program, sizes),)))

    def test_the_desk(self):
        for draw, program in drawn(30, 7, 1):
            sizes = drawn_sizes(draw, program)
            one, other = draw.choice(program.steps), draw.choice(program.steps)
            lines = ["program p " + program.text, "text p", f"meet p {one} {other}", "room p " + sizes_text(sizes),
                     "least p " + sizes_text(sizes), "places p", "lines p", f"hold p {one}", "text p", "undo", "factor p p"]
            self.same(answers("\n".join(lines)), [
                "done", program.text, "yes" if can_meet(program, one, other) else "no",
                f"{worst(program, sizes)} {lots_of(program, sizes)}", str(least_peak(program, sizes)),
                str(fewest_places(program)), "no" if two_lines(program) is None else "yes", "done",
                with_kept(program, one).text, "done", "1"])

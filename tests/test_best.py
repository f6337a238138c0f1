"""The fewest beats (points 1, 8 and 9)."""

import itertools
import unittest

from drumlay.best import best
from drumlay.drums import spun
from drumlay.layings import beats, costs
from drumlay.plain import run
from tests.samples import (
    COUNT_DOWN, COUNT_DOWN_GOES, ENDLESS, FORK, ONLY_STOP, STRAIGHT, Numbers, refusal, way_goes,
)

STOP = ("stop",)


def all_layings(program, wide, goes):
    """All layings with one home for each worth; what no row done uses lies at place 0."""
    worths, rows = program
    done = {0} | {to for _, to, _ in goes}
    used = {rows[row][1] for row in done if rows[row][0] in ("load", "add", "take", "store")}
    places = [range(wide) if row in done else (0,) for row in range(len(rows))]
    homes = [range(wide) if worth in used else (0,) for worth in range(len(worths))]
    for spots in itertools.product(*places, *homes):
        yield (wide, spots[:len(rows)], tuple((home,) for home in spots[len(rows):]))


def fewest(program, wide, goes):
    """The fewest beats by trying all places of all rows and worths that are done and used."""
    told = []
    for laying in all_layings(program, wide, goes):
        cost = {(row, to): many for row, to, many in costs(program, laying)}
        told.append(laying[1][0] + 1 + sum(many * cost[(row, to)] for row, to, many in goes))
    return min(told)


def selves(worths, loops):
    """A program and goes whose core is so many worths and so many rows that go to themselves."""
    rows = [("load", worth, worth + 1) for worth in range(worths)]
    if not rows:
        rows.append(("say", 1))
    for _ in range(loops):
        rows.append(("test", len(rows), len(rows) + 1))
    way = [0]
    for row in range(1, len(rows) + 1):
        way.extend([row, row] if rows[row:] and rows[row][0] == "test" else [row])
    return ((0,) * worths, (*rows, STOP)), way_goes(way)


def held(case, program, wide, goes):
    """Whether the laying is one with one home for each worth that takes just the beats told; tells these."""
    told, laying = best(program, wide, goes)
    case.assertEqual(laying[0], wide)
    case.assertEqual(beats(program, laying, goes), told)
    case.assertEqual([len(home) for home in laying[2]], [1] * len(program[0]))
    return told


class Small(unittest.TestCase):
    def test_a_stop_alone(self):
        for wide in range(2, 25):
            told, laying = best(ONLY_STOP, wide, [])
            self.assertEqual((told, laying), (1, (wide, (0,), ())))

    def test_a_way_in_which_nothing_waits(self):
        # One for each reading; two for the load, three for the add, three for the say.
        for wide in range(2, 25):
            told, _ = best(STRAIGHT, wide, [(0, 1, 1), (1, 2, 1), (2, 3, 1)])
            self.assertEqual(told, 4 + 2 + 3 + 3)

    def test_a_loop_takes_whole_rounds(self):
        # A say takes four beats; gone round three times, and once more to the stop.
        program = ((), (("say", 1), ("test", 0, 2), STOP))
        goes = [(0, 1, 4), (1, 0, 3), (1, 2, 1)]
        for wide, around in ((2, 6), (3, 6), (4, 8), (5, 10), (6, 6), (7, 7), (24, 24)):
            self.assertEqual(best(program, wide, goes)[0], 3 * around + 6 + 1, wide)

    def test_one_worth_used_twice(self):
        # From one use to the other: use and work, the reading, so three beats, in whole rounds.
        program = ((0,), (("load", 0, 1), ("store", 0, 2), STOP))
        for wide, between in ((2, 4), (3, 3), (4, 4), (5, 5), (24, 24)):
            self.assertEqual(best(program, wide, [(0, 1, 1), (1, 2, 1)])[0], 1 + between + 2 + 1, wide)

    def test_wide_2_and_24(self):
        self.assertEqual(held(self, COUNT_DOWN, 2, COUNT_DOWN_GOES), fewest(COUNT_DOWN, 2, COUNT_DOWN_GOES))
        # Rows 0 and 4 use worth 0, so a round of the loop takes two rounds of the drum; then load, test and stop.
        self.assertEqual(held(self, COUNT_DOWN, 24, COUNT_DOWN_GOES), 3 * 48 + 3 + 2 + 1)


class AllPlaces(unittest.TestCase):
    def test_ways_through_many_programs(self):
        numbers, tried = Numbers(77), 0
        while tried < 150:
            program = numbers.program(5)
            way = numbers.way(program, 30)
            if way is None or len(way) < 3:
                continue
            goes, wide = way_goes(way), 2 + numbers.below(5)
            if wide ** (len(set(way)) + len(program[0])) > 4000:
                continue
            tried += 1
            self.assertEqual(held(self, program, wide, goes), fewest(program, wide, goes), (program, wide, goes))

    def test_rows_beside_the_core(self):
        # Worth 0 and row 1 are the core; rows 2, 3 and 4 hang on it.
        program = ((0,), (("say", 1), ("test", 2, 3), ("add", 0, 1), ("load", 0, 4), STOP))
        for wide in (2, 3, 4):
            for way in ([0, 1, 3, 4], [0, 1, 2, 1, 3, 4], [0] + [1, 2] * 5 + [1, 3, 4]):
                goes = way_goes(way)
                self.assertEqual(held(self, program, wide, goes), fewest(program, wide, goes))

    def test_two_rows_on_one(self):
        program = ((0, 0), (("test", 1, 2), ("say", 0), ("load", 0, 3), ("test", 0, 4), STOP))
        for wide in (3, 4):
            goes = way_goes([0, 1, 0, 2, 3, 0, 2, 3, 4])
            self.assertEqual(held(self, program, wide, goes), fewest(program, wide, goes))

    def test_a_go_often_gone_counts_so_often(self):
        program = ((0,), (("load", 0, 1), ("test", 2, 3), ("add", 0, 1), ("store", 0, 4), STOP))
        for many in (1, 2, 50):
            goes = way_goes([0] + [1, 2] * many + [1, 3, 4])
            self.assertEqual(held(self, program, 4, goes), fewest(program, 4, goes))

    def test_runs(self):
        numbers, tried = Numbers(5), 0
        while tried < 25:
            program = numbers.program(5)
            _, end, done, goes = run(program, 100)
            wide = 2 + numbers.below(3)
            if end != STOP or len(goes) < 2:
                continue
            tried += 1
            told = held(self, program, wide, goes)
            self.assertEqual(told, fewest(program, wide, goes))
            self.assertEqual(spun(program, best(program, wide, goes)[1], sum(done)), (run(program, 100)[0], STOP, told))

    def test_no_laying_is_better(self):
        numbers, tried = Numbers(15), 0
        while tried < 60:
            program = numbers.program(12)
            way, wide = numbers.way(program), 2 + numbers.below(6)
            if way is None or refusal(best, program, wide, way_goes(way)) is not None:
                continue
            tried += 1
            goes = way_goes(way)
            told = held(self, program, wide, goes)
            for _ in range(30):
                places = tuple(numbers.below(wide) for _ in program[1])
                homes = tuple((numbers.below(wide),) for _ in program[0])
                self.assertGreaterEqual(beats(program, (wide, places, homes), goes), told)


class NotDone(unittest.TestCase):
    def test_rows_and_worths_that_no_row_done_uses(self):
        rows = [("say", 20)] + [("load", worth, 20) for worth in range(8)] * 2
        rows += [("say", 0)] * (20 - len(rows)) + [STOP] + [("test", 20, 3)] * 19
        program = ((0,) * 8, tuple(rows))
        for wide in (2, 24):
            self.assertEqual(held(self, program, wide, [(0, 20, 1)]), 5)

    def test_rows_not_done_make_no_row_of_the_core(self):
        # Each of rows 1 to 4 might be come to from all others, but one go alone leads to each.
        rows = (("test", 1, 2), ("test", 2, 3), ("test", 3, 4), ("test", 4, 1), STOP)
        self.assertEqual(held(self, ((), rows), 24, [(0, 1, 1), (1, 2, 1), (2, 3, 1), (3, 4, 1)]), 9)

    def test_a_worth_of_a_row_not_done_is_not_of_the_core(self):
        program = ((0,) * 4, (("test", 1, 4), ("load", 0, 2), ("load", 1, 3), ("load", 2, 4), ("load", 3, 5), STOP))
        self.assertEqual(refusal(best, program, 24, way_goes([0, 1, 2, 3, 4, 5])), ("TooMany",))
        self.assertEqual(held(self, program, 24, way_goes([0, 4, 5])), 2 + 3 + 1)


class TooMany(unittest.TestCase):
    def test_the_core_just_to_where_it_may_be(self):
        for worths, loops in ((8, 4), (0, 12), (3, 9)):
            self.assertEqual(held(self, *self.asked(worths, loops, 2)), self.waits(worths, loops, 2))
        for wide, most in ((3, 7), (4, 6), (5, 5), (6, 4), (8, 4), (9, 3), (17, 3), (18, 2), (24, 2)):
            self.assertEqual(held(self, *self.asked(most, 0, wide)), self.waits(most, 0, wide))

    def test_one_more_than_may_be(self):
        for worths, loops in ((8, 5), (0, 13), (3, 10)):
            self.assertEqual(refusal(best, *self.asked(worths, loops, 2)), ("TooMany",))
        for wide, most in ((3, 7), (4, 6), (5, 5), (6, 4), (8, 4), (9, 3), (17, 3), (18, 2), (24, 2)):
            for worths in range(min(most, 8) + 1):
                self.assertEqual(refusal(best, *self.asked(worths, most + 1 - worths, wide)), ("TooMany",))

    def test_each_wide(self):
        for wide in range(2, 25):
            for things in range(1, 14):
                wanted = ("TooMany",) if wide**things > 5000 else None
                if wanted or wide**things <= 600:
                    self.assertEqual(refusal(best, *self.asked(0, things, wide)), wanted, (wide, things))

    def asked(self, worths, loops, wide):
        program, goes = selves(worths, loops)
        return program, wide, goes

    def waits(self, worths, loops, wide):
        """The beats of what selves tells: a row that goes to itself takes two beats, and whole rounds if it does."""
        around = -(-2 // wide) * wide
        return 3 * worths + (4 if not worths else 0) + loops * (around + 2) + 1

    def test_row_0_is_not_of_the_core(self):
        # Two goes lead to row 0; rows 1 and 2, 5 times each, are come to from one row alone.
        program = ((0, 0), (("test", 0, 1), ("load", 0, 2), ("test", 0, 3), ("load", 1, 4), STOP))
        goes = way_goes([0, 0] + [1, 2, 0] * 5 + [1, 2, 3, 4])
        self.assertEqual(len([go for go in goes if go[1] == 0]), 2)
        held(self, program, 24, goes)

    def test_how_often_a_go_is_gone_makes_no_core(self):
        program = ((0,), (("load", 0, 1), ("say", 2), ("say", 3), ("test", 0, 4), STOP))
        goes = way_goes([0, 1, 2, 3] * 7 + [4])
        self.assertEqual(held(self, program, 24, goes), 6 * 24 + 3 + 4 + 4 + 2 + 1)

    def test_ahead_of_all_else_is_what_is_handed_in(self):
        program, goes = selves(8, 5)
        bad = (program[0], (("say", 99),))
        self.assertEqual(refusal(best, program, 2, goes), ("TooMany",))
        self.assertEqual(refusal(best, bad, 1, goes), ("BadProgram", 0, "next"))
        self.assertEqual(refusal(best, program, 25, goes[1:]), ("BadLaying", "wide", 0))
        self.assertEqual(refusal(best, program, 24, goes[1:]), ("BadGoes",))
        self.assertEqual(refusal(best, program, 2, [*goes, goes[0]]), ("BadGoes",))


class Given(unittest.TestCase):
    def test_kinds(self):
        told, laying = best(COUNT_DOWN, 5, COUNT_DOWN_GOES)
        self.assertEqual(type(best(COUNT_DOWN, 5, COUNT_DOWN_GOES)), tuple)
        self.assertEqual((type(told), [type(thing) for thing in laying]), (int, [int, tuple, tuple]))
        self.assertEqual({type(home) for home in laying[2]}, {tuple})

    def test_asked_again_and_in_any_order(self):
        told = best(COUNT_DOWN, 7, COUNT_DOWN_GOES)
        self.assertEqual(best(COUNT_DOWN, 7, COUNT_DOWN_GOES), told)
        self.assertEqual(best(COUNT_DOWN, 7, COUNT_DOWN_GOES[::-1])[0], told[0])

    def test_what_is_handed_in_stays(self):
        goes = COUNT_DOWN_GOES[::-1]
        before = repr((COUNT_DOWN, goes))
        best(COUNT_DOWN, 7, goes)
        refusal(best, COUNT_DOWN, 7, goes[1:])
        self.assertEqual(repr((COUNT_DOWN, goes)), before)

    def test_programs_that_go_round_for_ever(self):
        self.assertEqual(refusal(best, ENDLESS, 3, [(0, 0, 5)]), ("BadGoes",))
        self.assertEqual(refusal(best, FORK, 3, []), ("BadGoes",))


if __name__ == "__main__":
    unittest.main()

"""The beats that layings take (points 1, 6 and 8)."""

import unittest

from drumlay.layings import beats, costs
from drumlay.plain import run
from tests.samples import (
    COUNT_DOWN, COUNT_DOWN_GOES, COUNT_DOWN_LAYING, ENDLESS, FORK, ONLY_STOP, STRAIGHT, Numbers, refusal,
    rows_behind, slow_now,
)

STOP = ("stop",)


def slow_costs(program, laying):
    told = []
    for number, row in enumerate(program[1]):
        read, now = slow_now(row, laying, 0, laying[1][number])
        for to in sorted(set(rows_behind(row))):
            told.append((number, to, slow_now(STOP, laying, now, laying[1][to])[0] - read))
    return told


def slow_beats(program, laying, fuel):
    """The beat that is now behind so many rows, with the desk left to run: row by row along the way."""
    now, row = 0, 0
    for done in range(1, fuel + 1):
        _, now = slow_now(program[1][row], laying, now, laying[1][row])
        if program[1][row] == STOP:
            return now
        row = next_row(program, done)
    return None


def next_row(program, done):
    """The row behind so many: the go that one more row of fuel counts more than one less does."""
    before, behind = dict_of(run(program, done - 1)[3]), dict_of(run(program, done)[3])
    return [pair[1] for pair in behind if behind[pair] != before.get(pair, 0)][0]


def dict_of(goes):
    return {(row, to): many for row, to, many in goes}


def one_cost(row, wide, homes, place=0, to=0):
    """The cost from this row, with these homes of the worth, to a stop at a place."""
    program = ((0,), (row, STOP))
    return costs(program, (wide, (place, to), (homes,)))[0][2]


class EachWord(unittest.TestCase):
    def test_load_by_one_home(self):
        # Read in beat 0, use in 3, work in 4, now 5.
        self.assertEqual(one_cost(("load", 0, 1), 10, (3,), to=5), 5)
        self.assertEqual(one_cost(("load", 0, 1), 10, (3,), to=4), 14)
        self.assertEqual(one_cost(("load", 0, 1), 10, (3,), to=0), 10)

    def test_add_and_take_work_for_two(self):
        for word in ("add", "take"):
            self.assertEqual(one_cost((word, 0, 1), 10, (3,), to=6), 6)
            self.assertEqual(one_cost((word, 0, 1), 10, (3,), to=5), 15)

    def test_store_works_for_one(self):
        self.assertEqual(one_cost(("store", 0, 1), 10, (3,), to=5), 5)
        self.assertEqual(one_cost(("store", 0, 1), 10, (3,), to=4), 14)

    def test_say_works_for_three(self):
        self.assertEqual(one_cost(("say", 1), 10, (3,), to=4), 4)
        self.assertEqual(one_cost(("say", 1), 10, (3,), to=3), 13)

    def test_test_works_for_one(self):
        program = ((), (("test", 2, 1), STOP, STOP))
        self.assertEqual(costs(program, (10, (0, 2, 1), ())), [(0, 1, 2), (0, 2, 11)])

    def test_a_home_at_the_place_of_the_row_comes_a_round_behind(self):
        self.assertEqual(one_cost(("load", 0, 1), 10, (0,), to=2), 12)
        self.assertEqual(one_cost(("load", 0, 1), 10, (7,), place=7, to=9), 12)

    def test_the_home_just_behind_the_row(self):
        self.assertEqual(one_cost(("load", 0, 1), 10, (8,), place=7, to=9), 12)
        self.assertEqual(one_cost(("load", 0, 1), 10, (8,), place=7, to=0), 3)

    def test_load_add_take_use_the_first_home_that_comes(self):
        for word, work in (("load", 1), ("add", 2), ("take", 2)):
            self.assertEqual(one_cost((word, 0, 1), 10, (1, 4, 8), place=5, to=(8 + work + 1) % 10), 3 + work + 1)
            self.assertEqual(one_cost((word, 0, 1), 10, (1, 4), place=5, to=(1 + work + 1) % 10), 6 + work + 1)
            self.assertEqual(one_cost((word, 0, 1), 10, (5, 9), place=5, to=(9 + work + 1) % 10), 4 + work + 1)

    def test_store_uses_all_homes_up_to_the_last(self):
        self.assertEqual(one_cost(("store", 0, 1), 10, (1, 4, 8), place=5, to=6), 9 + 2)
        self.assertEqual(one_cost(("store", 0, 1), 10, (6, 8), place=5, to=0), 3 + 2)
        self.assertEqual(one_cost(("store", 0, 1), 10, (5, 8), place=5, to=7), 10 + 2)

    def test_to_itself(self):
        self.assertEqual(costs(ENDLESS, (2, (1,), ())), [(0, 0, 4)])
        self.assertEqual(costs(ENDLESS, (3, (1,), ())), [(0, 0, 6)])
        self.assertEqual(costs(ENDLESS, (4, (1,), ())), [(0, 0, 4)])
        self.assertEqual(costs(ENDLESS, (5, (1,), ())), [(0, 0, 5)])


class Costs(unittest.TestCase):
    LAYING = COUNT_DOWN_LAYING

    def test_a_program(self):
        self.assertEqual(
            costs(COUNT_DOWN, self.LAYING),
            [(0, 1, 8), (1, 2, 2), (1, 5, 3), (2, 3, 4), (3, 4, 7), (4, 0, 9)],
        )

    def test_no_goes_from_a_stop(self):
        self.assertEqual(costs(ONLY_STOP, (2, (1,), ())), [])

    def test_next_rows_that_are_one_are_told_once(self):
        program = ((), (("test", 1, 1), ("test", 1, 0)))
        self.assertEqual(costs(program, (4, (0, 2), ())), [(0, 1, 2), (1, 0, 2), (1, 1, 4)])

    def test_other_next_ahead_of_next_rises(self):
        program = ((), (("test", 2, 1), STOP, STOP))
        self.assertEqual([go[:2] for go in costs(program, (4, (0, 2, 3), ()))], [(0, 1), (0, 2)])

    def test_rows_that_are_never_come_to_are_told_too(self):
        program = ((), (STOP, ("say", 0)))
        self.assertEqual(costs(program, (5, (1, 2), ())), [(1, 0, 4)])

    def test_wide_2_and_24(self):
        self.assertEqual(one_cost(("store", 0, 1), 2, (0, 1), place=1, to=0), 5)
        self.assertEqual(one_cost(("store", 0, 1), 2, (0, 1), place=1, to=1), 4)
        self.assertEqual(one_cost(("load", 0, 1), 24, (23,), to=0), 48)
        self.assertEqual(one_cost(("load", 0, 1), 24, (23,), to=1), 25)

    def test_many_against_beat_by_beat(self):
        numbers = Numbers(3)
        for _ in range(400):
            program = numbers.program()
            laying = numbers.laying(program)
            self.assertEqual(costs(program, laying), slow_costs(program, laying), (program, laying))


class Beats(unittest.TestCase):
    def test_a_stop_alone(self):
        for place in (0, 1, 23):
            self.assertEqual(beats(ONLY_STOP, (24, (place,), ()), []), place + 1)

    def test_a_straight_program(self):
        # Read 0 in 1, use 4, work 5; read 1 in 6, use 7, work 8, 9; read 2 in 12, work 13 to 15; read 3 in 18.
        laying = (6, (1, 0, 0, 0), ((4,), (1, 3)))
        self.assertEqual(beats(STRAIGHT, laying, run(STRAIGHT, 9)[3]), 19)

    def test_a_loop(self):
        self.assertEqual(beats(COUNT_DOWN, Costs.LAYING, COUNT_DOWN_GOES), 2 + 32 + 6 + 3 + 12 + 21 + 27 + 1)

    def test_goes_in_any_order(self):
        told = beats(COUNT_DOWN, Costs.LAYING, COUNT_DOWN_GOES)
        self.assertEqual(beats(COUNT_DOWN, Costs.LAYING, COUNT_DOWN_GOES[::-1]), told)
        self.assertEqual(beats(COUNT_DOWN, Costs.LAYING, COUNT_DOWN_GOES[3:] + COUNT_DOWN_GOES[:3]), told)

    def test_goes_of_a_way_that_no_run_goes(self):
        # Whether a run tells them does not matter, if there is such a way: straight to the stop, and very often round.
        laying = Costs.LAYING
        self.assertEqual(beats(COUNT_DOWN, laying, [(0, 1, 1), (1, 5, 1)]), 2 + 8 + 3 + 1)
        many = 10**12
        goes = [(0, 1, many + 1), (1, 5, 1), (1, 2, many), (2, 3, many), (3, 4, many), (4, 0, many)]
        self.assertEqual(beats(COUNT_DOWN, laying, goes), 2 + 8 + 3 + 1 + many * 30)

    def test_many_against_beat_by_beat(self):
        numbers = Numbers(8)
        stopped = 0
        for _ in range(600):
            program = numbers.program()
            laying = numbers.laying(program)
            _, end, done, goes = run(program, 50)
            if end == STOP:
                stopped += 1
                self.assertEqual(beats(program, laying, goes), slow_beats(program, laying, sum(done)))
        self.assertGreater(stopped, 100)


class BadGoes(unittest.TestCase):
    def refused(self, program, goes):
        laying = (6, (0,) * len(program[1]), ((0,),) * len(program[0]))
        self.assertEqual(refusal(beats, program, laying, goes), ("BadGoes",), goes)

    def taken(self, program, goes):
        laying = (6, (0,) * len(program[1]), ((0,),) * len(program[0]))
        self.assertIsNone(refusal(beats, program, laying, goes))

    def test_goes_that_there_may_not_be(self):
        for go in ((0, 0, 1), (2, 1, 1), (3, 3, 1), (3, 0, 1), (0, 4, 1), (4, 0, 1), (-1, 0, 1), (-4, 1, 1), (9, 9, 1)):
            self.refused(STRAIGHT, [(0, 1, 1), (1, 2, 1), (2, 3, 1), go])
        self.refused(STRAIGHT, [(0, 3, 1)])

    def test_one_twice(self):
        self.taken(COUNT_DOWN, COUNT_DOWN_GOES)
        self.refused(COUNT_DOWN, [*COUNT_DOWN_GOES, COUNT_DOWN_GOES[0]])
        split = [(0, 1, 3), *COUNT_DOWN_GOES[1:], (0, 1, 1)]
        self.refused(COUNT_DOWN, split)
        self.refused(STRAIGHT, [(0, 1, 1), (0, 1, 1), (1, 2, 1), (1, 2, 1), (2, 3, 1), (2, 3, 1)])

    def test_fewer_than_1(self):
        self.refused(COUNT_DOWN, [(0, 1, 1), (1, 5, 1), (1, 2, 0), (2, 3, 0), (3, 4, 0), (4, 0, 0)])
        self.refused(COUNT_DOWN, [(0, 1, 1), (1, 5, 1), (1, 2, 0)])
        self.refused(COUNT_DOWN, [(0, 1, 0), (1, 5, 1), (1, 2, -1), (2, 3, -1), (3, 4, -1), (4, 0, -1)])
        self.refused(STRAIGHT, [(0, 1, True), (1, 2, 1), (2, 3, 1)])

    def test_goes_that_do_not_agree(self):
        for at, (row, to, many) in enumerate(COUNT_DOWN_GOES):
            for other in (many - 1, many + 1):
                goes = [*COUNT_DOWN_GOES]
                goes[at] = (row, to, other)
                self.refused(COUNT_DOWN, goes)
            self.refused(COUNT_DOWN, COUNT_DOWN_GOES[:at] + COUNT_DOWN_GOES[at + 1:])

    def test_two_ways_at_once(self):
        self.refused(STRAIGHT, [(0, 1, 2), (1, 2, 2), (2, 3, 2)])
        self.refused(FORK, [(0, 1, 2), (1, 3, 1), (1, 2, 1), (2, 4, 1)])

    def test_no_end_at_a_stop(self):
        self.refused(STRAIGHT, [])
        self.refused(STRAIGHT, [(0, 1, 1), (1, 2, 1)])
        self.refused(ENDLESS, [(0, 0, 5)])
        self.refused(ENDLESS, [])
        self.refused(COUNT_DOWN, [(0, 1, 1), (1, 2, 1), (2, 3, 1), (3, 4, 1), (4, 0, 1)])
        self.refused(COUNT_DOWN, run(COUNT_DOWN, 7)[3])

    def test_no_beginning_at_row_0(self):
        self.refused(STRAIGHT, [(1, 2, 1), (2, 3, 1)])
        self.refused(COUNT_DOWN, [(1, 5, 1)])
        self.refused(ONLY_STOP, [(0, 0, 1)])

    def test_rows_that_do_not_hang_together(self):
        program = ((), (("test", 1, 2), STOP, ("say", 3), ("test", 2, 1), ("say", 4), STOP))
        way = [(0, 1, 1)]
        self.taken(program, way)
        self.refused(program, [*way, (2, 3, 1), (3, 2, 1)])
        self.refused(program, [*way, (4, 4, 3)])
        self.taken(program, [(0, 2, 1), (2, 3, 2), (3, 2, 1), (3, 1, 1)])
        self.refused(program, [(0, 2, 1), (2, 3, 2), (3, 2, 1), (3, 1, 1), (4, 4, 1)])
        self.refused(((), (STOP, ("say", 1))), [(1, 1, 1)])

    def test_many_against_all_ways(self):
        program = ((), (("test", 1, 2), ("test", 0, 3), ("test", 2, 1), STOP))
        ways = all_ways(program[1], 7)
        pairs = [(0, 1), (0, 2), (1, 0), (1, 3), (2, 1), (2, 2)]
        for many in counts_up_to(7, len(pairs)):
            goes = [(*pair, count) for pair, count in zip(pairs, many) if count]
            if tuple(goes) in ways:
                self.taken(program, goes)
            else:
                self.refused(program, goes)

    def test_goes_up_to_a_stop_that_was_not_done_any_more(self):
        self.assertEqual(run(STRAIGHT, 3)[1], ("long",))
        self.taken(STRAIGHT, run(STRAIGHT, 3)[3])
        self.refused(STRAIGHT, run(STRAIGHT, 2)[3])

    def test_goes_that_this_program_s_worths_do_not_lead_to(self):
        self.taken(FORK, [(0, 1, 1), (1, 3, 1)])
        self.taken(FORK, [(0, 1, 1), (1, 2, 1), (2, 4, 1)])


def all_ways(rows, most):
    """The goes of all ways from row 0 to a stop of at most so many goes."""
    found, ways = set(), [(0,)]
    for _ in range(most + 1):
        for way in ways:
            if rows[way[-1]] == STOP:
                pairs = list(zip(way, way[1:]))
                found.add(tuple((*pair, pairs.count(pair)) for pair in sorted(set(pairs))))
        ways = [(*way, to) for way in ways for to in sorted(set(rows[way[-1]][1:]))]
    return found


def counts_up_to(total, places):
    """All lists of so many numbers from 0 that come to no more than the total."""
    if places == 0:
        return [[]]
    return [[first, *rest] for first in range(total + 1) for rest in counts_up_to(total - first, places - 1)]


class Given(unittest.TestCase):
    def test_kinds(self):
        told = costs(COUNT_DOWN, Costs.LAYING)
        self.assertIs(type(told), list)
        self.assertEqual({type(go) for go in told}, {tuple})
        self.assertIs(type(beats(COUNT_DOWN, Costs.LAYING, COUNT_DOWN_GOES)), int)

    def test_a_changed_answer_changes_no_later_one(self):
        first = costs(COUNT_DOWN, Costs.LAYING)
        kept = list(first)
        first.pop()
        first[0] = None
        self.assertEqual(costs(COUNT_DOWN, Costs.LAYING), kept)
        self.assertEqual(costs(COUNT_DOWN, Costs.LAYING), kept)

    def test_what_is_handed_in_stays(self):
        goes = COUNT_DOWN_GOES[::-1]
        before = repr((COUNT_DOWN, Costs.LAYING, goes))
        beats(COUNT_DOWN, Costs.LAYING, goes)
        costs(COUNT_DOWN, Costs.LAYING)
        self.assertEqual(repr((COUNT_DOWN, Costs.LAYING, goes)), before)
        refusal(beats, COUNT_DOWN, Costs.LAYING, goes[1:])
        self.assertEqual(repr(goes), before[before.index("[(4"):-1])


if __name__ == "__main__":
    unittest.main()

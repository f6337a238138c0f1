"""The goes that beats, best, bound and paper take, and those that they refuse (points 8, 9 and 11)."""

import unittest

from drumlay.best import best
from drumlay.layings import beats
from drumlay.papers import bound, paper
from tests.samples import COUNT_DOWN, COUNT_DOWN_GOES, ENDLESS, FORK, ONLY_STOP, STRAIGHT, Numbers, refusal, way_goes

STOP = ("stop",)

# Row 0 may go to the stop, or to rows 2 and 3, which may go round; row 4 may go to itself alone.
ROUNDS = ((), (("test", 1, 2), STOP, ("say", 3), ("test", 2, 1), ("say", 4), STOP))


def answers(program, goes):
    """What each of the four refuses; None for what it takes."""
    laying = (3, (0,) * len(program[1]), ((0,),) * len(program[0]))
    return [
        refusal(beats, program, laying, goes),
        refusal(best, program, 3, goes),
        refusal(bound, program, 3, goes, []),
        refusal(paper, program, 3, goes),
    ]


class Goes(unittest.TestCase):
    def taken(self, program, goes):
        self.assertEqual(answers(program, goes), [None] * 4, goes)

    def refused(self, program, goes):
        self.assertEqual(answers(program, goes), [("BadGoes",)] * 4, goes)

    def test_right_ones_in_any_order(self):
        for program, goes in (
            (ONLY_STOP, []), (STRAIGHT, way_goes([0, 1, 2, 3])), (COUNT_DOWN, COUNT_DOWN_GOES),
            (FORK, way_goes([0, 1, 3])), (FORK, way_goes([0, 1, 2, 4])), (ROUNDS, way_goes([0, 2, 3, 2, 3, 1])),
        ):
            for at in range(len(goes) + 1):
                self.taken(program, goes[at:] + goes[:at])
                self.taken(program, (goes[at:] + goes[:at])[::-1])

    def test_one_more_or_fewer(self):
        for at, (row, to, many) in enumerate(COUNT_DOWN_GOES):
            for other in (many - 1, many + 1, 0, -many):
                self.refused(COUNT_DOWN, [*COUNT_DOWN_GOES[:at], (row, to, other), *COUNT_DOWN_GOES[at + 1:]])

    def test_one_left_out(self):
        for at in range(len(COUNT_DOWN_GOES)):
            self.refused(COUNT_DOWN, COUNT_DOWN_GOES[:at] + COUNT_DOWN_GOES[at + 1:])
        self.refused(STRAIGHT, [])
        self.refused(ENDLESS, [])

    def test_one_twice(self):
        for row, to, many in COUNT_DOWN_GOES:
            self.refused(COUNT_DOWN, [*COUNT_DOWN_GOES, (row, to, many)])
        self.refused(COUNT_DOWN, [(0, 1, 3), *COUNT_DOWN_GOES[1:], (0, 1, 1)])

    def test_other_rows(self):
        for at, (_, to, many) in enumerate(COUNT_DOWN_GOES):
            for row in (-1, 5, 6, 10**9, True):
                self.refused(COUNT_DOWN, [*COUNT_DOWN_GOES[:at], (row, to, many), *COUNT_DOWN_GOES[at + 1:]])
        for go in ((5, 0, 1), (5, 5, 1), (0, 0, 1), (1, 1, 1), (1, 3, 1)):
            self.refused(COUNT_DOWN, [*COUNT_DOWN_GOES, go])

    def test_another_count_and_what_is_no_go(self):
        for at, (row, to, many) in enumerate(COUNT_DOWN_GOES):
            for go in ((), (row,), (row, to), (row, to, many, many), (row, to, many, 0), None, many, "go"):
                self.refused(COUNT_DOWN, [*COUNT_DOWN_GOES[:at], go, *COUNT_DOWN_GOES[at + 1:]])

    def test_goes_that_hang_together_with_nothing(self):
        self.taken(ROUNDS, [(0, 1, 1)])
        self.refused(ROUNDS, [(0, 1, 1), (4, 4, 1)])
        self.refused(ROUNDS, [(0, 1, 1), (2, 3, 2), (3, 2, 2)])
        self.taken(ROUNDS, way_goes([0, 2, 3, 2, 3, 1]))
        self.refused(ROUNDS, [*way_goes([0, 2, 3, 2, 3, 1]), (4, 4, 7)])
        self.refused(((), (STOP, ("say", 1))), [(1, 1, 1)])

    def test_no_way_to_a_stop(self):
        self.refused(ENDLESS, [(0, 0, 3)])
        self.refused(COUNT_DOWN, [(0, 1, 1), (1, 2, 1), (2, 3, 1), (3, 4, 1), (4, 0, 1)])
        self.refused(STRAIGHT, [(0, 1, 1), (1, 2, 1)])
        self.refused(FORK, [(0, 1, 2), (1, 2, 1), (1, 3, 1), (2, 4, 1)])

    def test_ways_of_many_programs_and_such_as_are_changed(self):
        numbers, tried = Numbers(85), 0
        while tried < 60:
            program = numbers.program(6)
            way = numbers.way(program, 60)
            if way is None or len(way) < 2 or refusal(best, program, 3, way_goes(way)) == ("TooMany",):
                continue
            tried += 1
            goes = way_goes(way)
            self.taken(program, goes)
            at = numbers.below(len(goes))
            row, to, many = goes[at]
            self.refused(program, [*goes[:at], *goes[at + 1:], (row, to, 0)])
            self.refused(program, [*goes, goes[at]])
            if row != to:
                self.refused(program, [*goes[:at], *goes[at + 1:], (row, to, many + 1)])
                self.refused(program, goes[:at] + goes[at + 1:])
            else:
                self.taken(program, [*goes[:at], *goes[at + 1:], (row, to, many + 1)])


class Wide(unittest.TestCase):
    def test_wide_that_can_not_be(self):
        for wide in (1, 25, 0, -2, 10**20, True, False):
            for function, more in ((best, ()), (bound, ([],)), (paper, ())):
                self.assertEqual(refusal(function, ONLY_STOP, wide, [], *more), ("BadLaying", "wide", 0))

    def test_2_and_24(self):
        for wide in (2, 24):
            for function, more in ((best, ()), (bound, ([],)), (paper, ())):
                self.assertIsNone(refusal(function, ONLY_STOP, wide, [], *more))


if __name__ == "__main__":
    unittest.main()

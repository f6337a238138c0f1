"""Loops and the beats of their rounds (points 1, 2, 5, 10 and 12)."""

import itertools
import unittest

from drumlay.layings import costs
from drumlay.loops import loop_beats, loops
from tests.samples import (
    COUNT_DOWN, COUNT_DOWN_LAYING, ENDLESS, FORK, ONLY_STOP, STRAIGHT, WORK, Numbers, refusal, rows_behind, slow_now,
)

STOP = ("stop",)


def stretches(rows):
    """All stretches, by trying rows in any turn."""
    for count in range(1, len(rows) + 1):
        for stretch in itertools.permutations(range(len(rows)), count):
            pairs = zip(stretch, stretch[1:])
            if min(stretch) == stretch[0] and all(to in rows_behind(rows[row]) for row, to in pairs):
                yield stretch


def slow_loops(program):
    rows = program[1]
    return sorted(stretch for stretch in stretches(rows) if stretch[0] in rows_behind(rows[stretch[-1]]))


def slow_round(program, laying, loop):
    """The beats from a reading of the loop's first row to the next one, beat by beat."""
    places = laying[1]
    first, now = slow_now(program[1][loop[0]], laying, 0, places[loop[0]])
    for row in loop[1:]:
        _, now = slow_now(program[1][row], laying, now, places[row])
    return slow_now(STOP, laying, now, places[loop[0]])[0] - first


def slow_least(program, laying, loop):
    """The least beats of all halves of the loop, and beats that are waited up to whole rounds."""
    words = [program[1][row][0] for row in loop]
    least = sum(1 + WORK[word] + (word in ("load", "add", "take", "store")) for word in words)
    while least % laying[0]:
        least += 1
    return least


def alike(program, wide=5):
    """A laying with all at place 0."""
    return (wide, (0,) * len(program[1]), ((0,),) * len(program[0]))


def ladder(count, last=STOP):
    """Rows of which each may go to the next one and to the one behind that; numbers from 0."""
    return [("test", row + 1, row + 2) for row in range(count - 2)] + [("say", count - 1), last]


def beside(*blocks):
    """A program of blocks of rows, each behind the ones ahead, none going to another."""
    rows = []
    for block in blocks:
        at = len(rows)
        rows.extend([(row[0], *[to + at for to in row[1:]]) for row in block])
    return ((), tuple(rows))


def stretches_of_ladder(count):
    """How many stretches a ladder has: by its rows from the last one."""
    begun = [1, 2]
    while len(begun) < count:
        begun.append(1 + begun[-1] + begun[-2])
    return sum(begun[:count])


class Loops(unittest.TestCase):
    def test_none(self):
        for program in (ONLY_STOP, STRAIGHT, FORK, beside(ladder(8)), ((), (("test", 1, 1), STOP))):
            self.assertEqual(loops(program), [])
            self.assertEqual(loop_beats(program, alike(program)), [])

    def test_a_row_that_goes_to_itself(self):
        self.assertEqual(loops(ENDLESS), [(0,)])
        self.assertEqual(loops(((0,), (STOP, ("add", 0, 1)))), [(1,)])
        self.assertEqual(loops(((), (("test", 0, 1), ("test", 0, 1)))), [(0,), (0, 1), (1,)])

    def test_a_test_both_of_whose_nexts_are_one_row(self):
        self.assertEqual(loops(((), (("test", 0, 0),))), [(0,)])
        self.assertEqual(loops(((), (("test", 1, 1), ("test", 0, 0)))), [(0, 1)])
        self.assertEqual(loops(((), (("test", 1, 1), ("say", 2), ("test", 0, 0)))), [(0, 1, 2)])

    def test_a_loop_and_its_least_row(self):
        self.assertEqual(loops(COUNT_DOWN), [(0, 1, 2, 3, 4)])
        self.assertEqual(loops(((), (("say", 3), ("say", 2), ("say", 4), ("say", 1), ("say", 3)))), [(1, 2, 4, 3)])

    def test_within_one_another(self):
        rows = (("test", 1, 3), ("test", 2, 0), ("test", 1, 0), STOP)
        self.assertEqual(loops(((), rows)), [(0, 1), (0, 1, 2), (1, 2)])

    def test_beside_one_another(self):
        rows = (("test", 1, 2), ("say", 0), ("test", 4, 3), ("say", 2), STOP)
        self.assertEqual(loops(((), rows)), [(0, 1), (2, 3)])

    def test_over_one_row_in_common(self):
        # Row 2 lies on both; the eight comes to it twice, so it is none.
        rows = (("say", 2), ("say", 2), ("test", 0, 1))
        self.assertEqual(loops(((), rows)), [(0, 2), (1, 2)])

    def test_one_that_row_0_never_comes_to(self):
        self.assertEqual(loops(((), (STOP, ("say", 2), ("say", 1)))), [(1, 2)])
        self.assertEqual(loops(((), (("say", 1), STOP, ("say", 2), ("test", 3, 0)))), [(2,), (3,)])

    def test_both_ways_around(self):
        rows = (("test", 1, 2), ("test", 2, 0), ("test", 0, 1))
        self.assertEqual(loops(((), rows)), [(0, 1), (0, 1, 2), (0, 2), (0, 2, 1), (1, 2)])

    def test_they_rise_by_their_rows_and_not_by_their_length(self):
        rows = (("test", 3, 1), ("test", 2, 0), ("say", 0), ("test", 10, 4)) + tuple(
            ("say", (row + 1) % 11) for row in range(4, 11)
        )
        told = loops(((), rows))
        self.assertEqual(told, [(0, 1), (0, 1, 2), (0, 3, 4, 5, 6, 7, 8, 9, 10), (0, 3, 10)])

    def test_forty_rows_in_one_loop(self):
        rows = tuple(("say", (row + 39) % 40) for row in range(40))
        self.assertEqual(loops(((), rows)), [(0, *range(39, 0, -1))])

    def test_many_against_all_turns_of_rows(self):
        numbers, most = Numbers(9), 0
        for _ in range(200):
            program = numbers.program(6)
            told = loops(program)
            self.assertEqual(told, slow_loops(program), program)
            most = max(most, len(told))
        self.assertGreater(most, 4)

    def test_tests_alone_against_all_turns_of_rows(self):
        numbers = Numbers(19)
        for _ in range(60):
            count = 3 + numbers.below(4)
            program = ((), tuple(("test", numbers.below(count), numbers.below(count)) for _ in range(count)))
            self.assertEqual(loops(program), slow_loops(program), program)


class LoopBeats(unittest.TestCase):
    # Read 0 in 2, 1 in 10, 2 in 12, 3 in 16, 4 in 23, 0 in 32: test_drums turns it.
    def test_a_loop_by_two_and_three_homes(self):
        # The halves are 5 rows' first ones, and 2, 1, 3, 3 and 2: 16, and 18 in rounds of 6.
        self.assertEqual(loop_beats(COUNT_DOWN, COUNT_DOWN_LAYING), [((0, 1, 2, 3, 4), 30, 18)])

    def test_rounded_up_to_whole_rounds(self):
        for wide in range(2, 25):
            (_, beats, least), = loop_beats(COUNT_DOWN, alike(COUNT_DOWN, wide))
            self.assertEqual(least, -(-16 // wide) * wide)
            self.assertEqual(beats, slow_round(COUNT_DOWN, alike(COUNT_DOWN, wide), (0, 1, 2, 3, 4)))

    def test_each_word_by_itself(self):
        # Read, used a beat behind, and worked; the laying lets the next reading come at once in 2 + work.
        for word, least in (("load", 3), ("add", 4), ("take", 4), ("store", 3)):
            program = ((0,), ((word, 0, 0),))
            for wide in (2, 3, 4, 5, 24):
                whole = -(-least // wide) * wide
                self.assertEqual(loop_beats(program, (wide, (0,), ((1,),))), [((0,), whole, whole)], (word, wide))
        for row, least in ((("say", 0), 4), (("test", 0, 0), 2)):
            for wide in (2, 3, 4, 5, 24):
                whole = -(-least // wide) * wide
                self.assertEqual(loop_beats(((), (row,)), (wide, (1,), ())), [((0,), whole, whole)], (row, wide))

    def test_a_home_at_the_row_takes_a_round_more(self):
        self.assertEqual(loop_beats(((0,), (("load", 0, 0),)), (7, (3,), ((3,),))), [((0,), 14, 7)])

    def test_a_load_uses_the_first_home_and_a_store_all(self):
        for homes, load, store in (
            ((5,), 10, 10), ((5, 9), 10, 20), ((1, 5, 9), 10, 20), ((0,), 20, 20), ((0, 1), 10, 20),
        ):
            for word, beats in (("load", load), ("store", store)):
                program = ((0,), ((word, 0, 0),))
                self.assertEqual(loop_beats(program, (10, (0,), (homes,))), [((0,), beats, 10)], (word, homes))

    def test_several_loops(self):
        rows = (("test", 1, 3), ("say", 0), STOP, ("load", 0, 4), ("test", 0, 3))
        told = loop_beats(((0,), rows), (4, (0, 2, 0, 2, 1), ((3,),)))
        # 0 to 1 and back 2 + 6; 0 to 3, 4 and back 2 + 3 + 3; 3 to 4 and back 3 + 5.
        self.assertEqual(told, [((0, 1), 8, 8), ((0, 3, 4), 8, 8), ((3, 4), 8, 8)])

    def test_one_that_row_0_never_comes_to(self):
        program = ((), (STOP, ("say", 2), ("test", 1, 2)))
        self.assertEqual(loop_beats(program, (9, (0, 4, 5), ())), [((1, 2), 18, 9), ((2,), 9, 9)])

    def test_many_beat_by_beat(self):
        numbers, over = Numbers(29), 0
        for most_homes in (1, 2, 3):
            for _ in range(150):
                program = numbers.program()
                laying = numbers.laying(program, most_homes)
                cost = {(row, to): beats for row, to, beats in costs(program, laying)}
                told = loop_beats(program, laying)
                self.assertEqual([loop for loop, _, _ in told], loops(program))
                for loop, beats, least in told:
                    self.assertEqual(beats, slow_round(program, laying, loop), (program, laying, loop))
                    self.assertEqual(beats, sum(cost[pair] for pair in zip(loop, (*loop[1:], loop[0]))))
                    self.assertEqual(least, slow_least(program, laying, loop))
                    self.assertEqual((beats % laying[0], least % laying[0]), (0, 0))
                    self.assertGreaterEqual(beats, least)
                    over += beats > least
        self.assertGreater(over, 100)


class TooMany(unittest.TestCase):
    def refused(self, program, wanted):
        self.assertEqual(refusal(loops, program), wanted)
        self.assertEqual(refusal(loop_beats, program, alike(program)), wanted)

    def test_a_hundred_loops_and_one_more(self):
        # The ways through a ladder of 11 rows are 89.
        ring, alone = ladder(11, ("say", 0)), [("say", 0)]
        self.assertEqual(len(loops(beside(ring))), 89)
        for program in (beside(ring, *[alone] * 11), beside([STOP], *[alone] * 11, ring)):
            self.refused(program, None)
            self.assertEqual(len(loops(program)), 100)
            self.assertEqual(len(loop_beats(program, alike(program))), 100)
        self.refused(beside(ring, *[alone] * 12), ("TooMany",))
        self.refused(beside([STOP], *[alone] * 12, ring), ("TooMany",))

    def test_a_loop_is_counted_once_however_often_it_can_be_gone(self):
        # Tests both of whose nexts are one row double no loop.
        rows = [("test", (row + 1) % 40, (row + 1) % 40) for row in range(40)]
        self.refused(((), tuple(rows)), None)

    # 2567, 364, 46, 14, 7 and twice 1.
    BLOCKS = [ladder(14), ladder(10), ladder(6), ladder(4), ladder(3), [STOP], [STOP]]

    def test_the_blocks(self):
        self.assertEqual(sum(stretches_of_ladder(len(block)) for block in self.BLOCKS), 3000)
        for count in (1, 2, 3, 4, 6, 7):
            rows = [STOP] if count == 1 else ladder(count)
            self.assertEqual(len(list(stretches(rows))), stretches_of_ladder(count))

    def test_3000_stretches_and_one_more(self):
        for blocks in (self.BLOCKS, self.BLOCKS[::-1]):
            self.refused(beside(*blocks), None)
            self.refused(beside(*blocks, [STOP]), ("TooMany",))
            self.refused(beside([STOP], *blocks), ("TooMany",))

    def test_a_go_to_itself_to_a_lesser_row_or_to_one_twice_makes_no_stretch(self):
        # Each ladder but the first one ends in a go back; of the stops one goes to itself, one to row 0.
        back = [block[:-1] + [("say", 0)] for block in self.BLOCKS[1:]]
        program = beside(self.BLOCKS[0], *back)
        self.refused(program, None)
        self.assertEqual(len(loops(program)), 55 + 8 + 3 + 2 + 1 + 1)
        rows = program[1][:-1] + (("say", 0),)
        self.refused(((), rows), None)
        self.assertEqual(len(loops(((), rows))), 55 + 8 + 3 + 2 + 1)
        self.refused(((), (*rows, ("say", 39))), ("TooMany",))

    def test_both_nexts_one_row_are_one_stretch(self):
        twice = [[("test", *row[1:], *row[1:]) if row[0] == "say" else row for row in block] for block in self.BLOCKS]
        self.assertNotEqual(twice, self.BLOCKS)
        self.refused(beside(*twice), None)
        self.refused(beside(*twice, [STOP]), ("TooMany",))

    def test_a_hundred_loops_within_3000_stretches(self):
        # 972 stretches of the ring of 12 with 144 loops.
        self.refused(beside(ladder(12, ("say", 0))), ("TooMany",))
        self.assertEqual(stretches_of_ladder(12), 972)

    def test_tests_anyhow(self):
        rows = tuple(("test", (row + 1) % 40, (7 * row + 3) % 40) for row in range(40))
        self.refused(((), rows), ("TooMany",))

    def test_behind_all_else(self):
        many = beside(ladder(12, ("say", 0)))
        bad = ((), (*many[1], ("say", 99)))
        self.assertEqual(refusal(loops, bad), ("BadProgram", 12, "next"))
        self.assertEqual(refusal(loop_beats, bad, (1, (), ())), ("BadProgram", 12, "next"))
        self.assertEqual(refusal(loop_beats, many, (1, (), ())), ("BadLaying", "wide", 0))
        self.assertEqual(refusal(loop_beats, many, (5, (0,) * 11 + (5,), ())), ("BadLaying", "places", 11))
        self.assertEqual(refusal(loop_beats, many, (5, (0,) * 12, ((0,),))), ("BadLaying", "homes", -1))
        self.assertEqual(refusal(loop_beats, many, alike(many)), ("TooMany",))


class Given(unittest.TestCase):
    def test_kinds(self):
        told = loops(COUNT_DOWN)
        self.assertEqual((type(told), [type(loop) for loop in told]), (list, [tuple]))
        told = loop_beats(COUNT_DOWN, COUNT_DOWN_LAYING)
        self.assertEqual((type(told), type(told[0])), (list, tuple))
        self.assertEqual([type(thing) for thing in told[0]], [tuple, int, int])

    def test_a_changed_answer_changes_no_later_one(self):
        for function, handed in ((loops, (COUNT_DOWN,)), (loop_beats, (COUNT_DOWN, COUNT_DOWN_LAYING))):
            first = function(*handed)
            kept = list(first)
            first[0] = "x"
            first.append("y")
            self.assertEqual(function(*handed), kept)
            function(*handed).clear()
            self.assertEqual(function(*handed), kept)

    def test_what_is_handed_in_stays(self):
        before = repr((COUNT_DOWN, COUNT_DOWN_LAYING))
        loops(COUNT_DOWN)
        loop_beats(COUNT_DOWN, COUNT_DOWN_LAYING)
        self.assertEqual(repr((COUNT_DOWN, COUNT_DOWN_LAYING)), before)


if __name__ == "__main__":
    unittest.main()

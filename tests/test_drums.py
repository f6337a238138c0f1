"""Drums and spun (points 1 and 7)."""

import unittest

from drumlay.drums import Drum, spun
from drumlay.errors import Over
from drumlay.layings import beats
from drumlay.plain import run
from tests.samples import (
    COUNT_DOWN, COUNT_DOWN_LAYING, ENDLESS, FORK, ONLY_STOP, STRAIGHT, Numbers, refusal, slow_now,
)

STOP = ("stop",)
LONG = ("long",)


def look(drum):
    return (drum.beat(), drum.says(), drum.holds(), drum.is_over())


def slow_turns(program, laying, fuel):
    """What each turn tells and what the drum tells behind it, read off the document."""
    holds, rows = list(program[0]), program[1]
    now, row, desk, said, told = 0, 0, 0, [], []
    for _ in range(fuel):
        number = row
        read, now = slow_now(rows[row], laying, now, laying[1][row])
        match rows[row]:
            case ("load", worth, row):
                desk = holds[worth]
            case ("add", worth, row):
                desk += holds[worth]
            case ("take", worth, row):
                desk -= holds[worth]
            case ("store", worth, row):
                holds[worth] = desk
            case ("say", row):
                said.append(desk)
            case ("test", zero, other):
                row = other if desk else zero
        over = rows[number] == STOP
        told.append(((number, read), (now, list(said), list(holds), over)))
        if over:
            break
    return told


def turns(program, laying, fuel):
    drum, told = Drum(program, laying), []
    while len(told) < fuel and not drum.is_over():
        told.append((drum.turn(), look(drum)))
    return told


class Turns(unittest.TestCase):
    def test_at_first(self):
        self.assertEqual(look(Drum(STRAIGHT, (6, (1, 0, 0, 0), ((4,), (1, 3))))), (0, [], [7, -5], False))
        self.assertEqual(look(Drum(ONLY_STOP, (2, (1,), ()))), (0, [], [], False))

    def test_a_straight_program(self):
        # Read 0 in 1, use 4, work 5; read 1 in 6, use 7, work 8, 9; read 2 in 12, work 13 to 15; read 3 in 18.
        drum = Drum(STRAIGHT, (6, (1, 0, 0, 0), ((4,), (1, 3))))
        self.assertEqual((drum.turn(), look(drum)), ((0, 1), (6, [], [7, -5], False)))
        self.assertEqual((drum.turn(), look(drum)), ((1, 6), (10, [], [7, -5], False)))
        self.assertEqual((drum.turn(), look(drum)), ((2, 12), (16, [2], [7, -5], False)))
        self.assertEqual((drum.turn(), look(drum)), ((3, 18), (19, [2], [7, -5], True)))

    def test_a_loop_with_two_and_three_homes(self):
        # Row 0 uses worth 0 at 3, row 3 worth 1 at 5; row 4 gives worth 0 at 1 and at 3.
        drum = Drum(COUNT_DOWN, COUNT_DOWN_LAYING)
        wanted = [
            ((0, 2), (5, [], [3, 1], False)),
            ((1, 10), (12, [], [3, 1], False)),
            ((2, 12), (16, [3], [3, 1], False)),
            ((3, 16), (20, [3], [3, 1], False)),
            ((4, 23), (29, [3], [2, 1], False)),
            ((0, 32), (35, [3], [2, 1], False)),
        ]
        self.assertEqual([(drum.turn(), look(drum)) for _ in wanted], wanted)

    def test_a_loop_up_to_its_stop(self):
        told = turns(COUNT_DOWN, COUNT_DOWN_LAYING, 100)
        self.assertEqual([row for (row, _), _ in told], [0, 1, 2, 3, 4] * 3 + [0, 1, 5])
        self.assertEqual([read for (_, read), _ in told[::5]], [2, 32, 62, 92])
        self.assertEqual(told[-2:], [((1, 100), (102, [3, 2, 1], [0, 1], False)), ((5, 103), (104, [3, 2, 1], [0, 1], True))])

    def test_a_stop_alone(self):
        for place in (0, 1, 23):
            drum = Drum(ONLY_STOP, (24, (place,), ()))
            self.assertEqual((drum.turn(), look(drum)), ((0, place), (place + 1, [], [], True)))

    def test_all_at_one_place(self):
        drum = Drum(STRAIGHT, (4, (2, 2, 2, 2), ((2,), (2,))))
        self.assertEqual([drum.turn() for _ in range(4)], [(0, 2), (1, 10), (2, 18), (3, 22)])

    def test_a_row_is_read_at_once_if_its_place_comes_just_then(self):
        drum = Drum(ENDLESS, (4, (0,), ()))
        self.assertEqual([drum.turn() for _ in range(4)], [(0, 0), (0, 4), (0, 8), (0, 12)])
        drum = Drum(ENDLESS, (3, (0,), ()))
        self.assertEqual([drum.turn() for _ in range(4)], [(0, 0), (0, 6), (0, 12), (0, 18)])

    def test_what_does_not_stop(self):
        drum = Drum(ENDLESS, (2, (1,), ()))
        for number in range(6000):
            self.assertEqual(drum.turn(), (0, 1 + 4 * number))
        self.assertEqual(look(drum), (1 + 4 * 6000, [0] * 6000, [], False))

    def test_a_fork(self):
        laying = (5, (0, 1, 2, 3, 4), ((1,), (1,)))
        self.assertEqual([row for (row, _), _ in turns(FORK, laying, 9)], [0, 1, 2, 4])
        self.assertEqual([row for (row, _), _ in turns(((1, 4), FORK[1]), laying, 9)], [0, 1, 3])

    def test_many_against_beat_by_beat(self):
        numbers, stopped = Numbers(21), 0
        for most_homes in (1, 2, 3):
            for _ in range(120):
                program = numbers.program()
                laying = numbers.laying(program, most_homes)
                wanted = slow_turns(program, laying, 30)
                self.assertEqual(turns(program, laying, 30), wanted, (program, laying))
                stopped += wanted[-1][1][3]
        self.assertGreater(stopped, 60)

    def test_two_drums_turned_by_turns(self):
        other = (7, (0, 3, 6, 2, 5, 1), ((0,), (4,)))
        wanted = [turns(COUNT_DOWN, laying, 18) for laying in (COUNT_DOWN_LAYING, other, other)]
        drums = [Drum(COUNT_DOWN, laying) for laying in (COUNT_DOWN_LAYING, other, other)]
        told = [[], [], []]
        for number in range(36):
            for at in ((0, 1), (1, 0))[number % 2]:
                if not drums[at].is_over():
                    told[at].append((drums[at].turn(), look(drums[at])))
        while not drums[2].is_over():
            told[2].append((drums[2].turn(), look(drums[2])))
        self.assertEqual(told, wanted)


class Stopped(unittest.TestCase):
    def test_over_behind_a_stop_again_and_again(self):
        for program, laying in ((ONLY_STOP, (2, (1,), ())), (COUNT_DOWN, COUNT_DOWN_LAYING)):
            drum = Drum(program, laying)
            while not drum.is_over():
                drum.turn()
            before = look(drum)
            for _ in range(3):
                self.assertEqual(refusal(drum.turn), ("Over",))
                self.assertRaises(Over, drum.turn)
                self.assertEqual(look(drum), before)
            self.assertTrue(before[3])

    def test_over_of_one_drum_leaves_the_other(self):
        over, other = Drum(ONLY_STOP, (2, (1,), ())), Drum(ONLY_STOP, (2, (1,), ()))
        over.turn()
        self.assertRaises(Over, over.turn)
        self.assertFalse(other.is_over())
        self.assertEqual(other.turn(), (0, 1))


class Spun(unittest.TestCase):
    def test_0_and_1(self):
        self.assertEqual(spun(STRAIGHT, (6, (1, 0, 0, 0), ((4,), (1, 3))), 0), ([], LONG, 0))
        self.assertEqual(spun(STRAIGHT, (6, (1, 0, 0, 0), ((4,), (1, 3))), 1), ([], LONG, 6))
        self.assertEqual(spun(ONLY_STOP, (6, (5,), ()), 0), ([], LONG, 0))
        self.assertEqual(spun(ONLY_STOP, (6, (5,), ()), 1), ([], STOP, 6))
        self.assertEqual(spun(ENDLESS, (6, (5,), ()), 1), ([0], LONG, 9))

    def test_just_where_it_ends(self):
        laying = COUNT_DOWN_LAYING
        self.assertEqual(spun(COUNT_DOWN, laying, 17), ([3, 2, 1], LONG, 102))
        for fuel in (18, 19, 5000):
            self.assertEqual(spun(COUNT_DOWN, laying, fuel), ([3, 2, 1], STOP, 104))

    def test_5000(self):
        self.assertEqual(spun(ENDLESS, (2, (1,), ()), 5000), ([0] * 5000, LONG, 1 + 4 * 5000))

    def test_many_beside_run_and_beats(self):
        numbers, ends = Numbers(31), []
        for _ in range(300):
            program = numbers.program()
            laying = numbers.laying(program)
            long = run(program, 60)
            ends.append(long[1])
            for fuel in (0, 1, sum(long[2]) - 1, sum(long[2]), 60):
                said, end, _, _ = run(program, fuel)
                self.assertEqual(spun(program, laying, fuel)[:2], (said, end), (program, laying, fuel))
            if ends[-1] == STOP:
                wanted = (long[0], STOP, beats(program, laying, long[3]))
                self.assertEqual(spun(program, laying, sum(long[2])), wanted)
                self.assertEqual(spun(program, laying, 5000), wanted)
        self.assertGreater(ends.count(STOP), 60)
        self.assertGreater(ends.count(LONG), 60)

    def test_beside_a_drum(self):
        numbers = Numbers(41)
        for _ in range(100):
            program = numbers.program()
            laying = numbers.laying(program)
            fuel = numbers.below(40)
            drum = Drum(program, laying)
            for _ in range(fuel):
                if not drum.is_over():
                    drum.turn()
            end = STOP if drum.is_over() else LONG
            self.assertEqual(spun(program, laying, fuel), (drum.says(), end, drum.beat()))

    def test_beyond_the_fuel(self):
        for fuel in (-1, 5001, 10**20, -(10**20), True, False):
            self.assertEqual(refusal(spun, ONLY_STOP, (2, (0,), ()), fuel), ("BadFuel",))


class Refused(unittest.TestCase):
    def test_program_then_laying_then_fuel(self):
        bad_program, bad_laying = ((), (("say", 1),)), (2, (2,), ())
        self.assertEqual(refusal(spun, bad_program, bad_laying, -1), ("BadProgram", 0, "next"))
        self.assertEqual(refusal(spun, bad_program, (2, (0,), ()), 1), ("BadProgram", 0, "next"))
        self.assertEqual(refusal(spun, ENDLESS, bad_laying, -1), ("BadLaying", "places", 0))
        self.assertEqual(refusal(spun, ENDLESS, (2, (1,), ()), -1), ("BadFuel",))
        self.assertEqual(refusal(Drum, bad_program, bad_laying), ("BadProgram", 0, "next"))
        self.assertEqual(refusal(Drum, ENDLESS, bad_laying), ("BadLaying", "places", 0))

    def test_layings(self):
        for laying, wanted in (
            ((1, (0,), ((0,),)), ("BadLaying", "wide", 0)),
            ((25, (0,), ((0,),)), ("BadLaying", "wide", 0)),
            ((True, (0,), ((0,),)), ("BadLaying", "wide", 0)),
            ((4, (), ((0,),)), ("BadLaying", "places", -1)),
            ((4, (4,), ((0,),)), ("BadLaying", "places", 0)),
            ((4, (0,), ()), ("BadLaying", "homes", -1)),
            ((4, (0,), ((2, 1),)), ("BadLaying", "homes", 0)),
        ):
            program = ((8,), (STOP,))
            self.assertEqual(refusal(Drum, program, laying), wanted)
            self.assertEqual(refusal(spun, program, laying, 3), wanted)


class Given(unittest.TestCase):
    def test_kinds(self):
        drum = Drum(COUNT_DOWN, COUNT_DOWN_LAYING)
        told = drum.turn()
        self.assertEqual((type(told), type(told[0]), type(told[1])), (tuple, int, int))
        self.assertEqual([type(thing) for thing in look(drum)], [int, list, list, bool])
        told = spun(COUNT_DOWN, COUNT_DOWN_LAYING, 9)
        self.assertEqual((type(told), [type(thing) for thing in told]), (tuple, [list, tuple, int]))

    def test_each_method_is_defined_in_the_class(self):
        for name in ("turn", "beat", "says", "holds", "is_over"):
            self.assertIn(name, vars(Drum))

    def test_what_a_drum_told_changes_nothing(self):
        wanted = turns(COUNT_DOWN, COUNT_DOWN_LAYING, 100)
        drum = Drum(COUNT_DOWN, COUNT_DOWN_LAYING)
        for turn, seen in wanted:
            for told in (drum.says(), drum.holds()):
                told.append(77)
                told[0] = 78
            self.assertEqual(drum.turn(), turn)
            self.assertEqual(look(drum), seen)
            self.assertEqual(look(drum), seen)

    def test_what_was_told_stays_when_the_drum_turns(self):
        drum = Drum(COUNT_DOWN, COUNT_DOWN_LAYING)
        said, held = drum.says(), drum.holds()
        for _ in range(5):
            drum.turn()
        self.assertEqual((said, held), ([], [3, 1]))
        self.assertEqual((drum.says(), drum.holds()), ([3], [2, 1]))

    def test_asking_does_not_turn(self):
        drum = Drum(COUNT_DOWN, COUNT_DOWN_LAYING)
        drum.turn()
        self.assertEqual([look(drum) for _ in range(3)], [(5, [], [3, 1], False)] * 3)

    def test_a_changed_answer_of_spun_changes_no_later_one(self):
        first = spun(COUNT_DOWN, COUNT_DOWN_LAYING, 18)
        first[0].append(9)
        self.assertEqual(spun(COUNT_DOWN, COUNT_DOWN_LAYING, 18), ([3, 2, 1], STOP, 104))

    def test_lists_that_things_were_made_of_may_be_changed_behind(self):
        worths, rows, places, homes = [3, 1], list(COUNT_DOWN[1]), [2, 4, 0, 4, 5, 1], [(1, 3), (0, 2, 5)]
        drum = Drum((tuple(worths), tuple(rows)), (6, tuple(places), tuple(homes)))
        for things in (worths, rows, places, homes):
            things.clear()
        told = []
        while not drum.is_over():
            told.append((drum.turn(), look(drum)))
        self.assertEqual(told, turns(COUNT_DOWN, COUNT_DOWN_LAYING, 100))

    def test_what_is_handed_in_stays(self):
        before = repr((COUNT_DOWN, COUNT_DOWN_LAYING))
        turns(COUNT_DOWN, COUNT_DOWN_LAYING, 100)
        spun(COUNT_DOWN, COUNT_DOWN_LAYING, 100)
        self.assertEqual(repr((COUNT_DOWN, COUNT_DOWN_LAYING)), before)


if __name__ == "__main__":
    unittest.main()

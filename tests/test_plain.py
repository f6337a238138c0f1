"""What a program does (points 1, 3 and 4)."""

import unittest

from drumlay.plain import run
from tests.samples import (
    COUNT_DOWN, COUNT_DOWN_GOES, ENDLESS, FORK, ONLY_STOP, STRAIGHT, Numbers, refusal,
)

STOP = ("stop",)


def said_by(worths, *rows):
    """What a straight program says; each row is written without its next one."""
    whole = tuple((*row, number + 1) for number, row in enumerate(rows)) + (STOP,)
    said, end, _, _ = run((worths, whole), 5000)
    assert end == STOP
    return said


class Words(unittest.TestCase):
    def test_the_desk_begins_at_0(self):
        self.assertEqual(said_by((), ("say",)), [0])
        self.assertEqual(said_by((4,), ("add", 0), ("say",)), [4])
        self.assertEqual(said_by((4,), ("take", 0), ("say",)), [-4])

    def test_load_lays_it_instead(self):
        self.assertEqual(said_by((4, 9), ("load", 0), ("load", 1), ("say",)), [9])

    def test_add_and_take_leave_the_worth(self):
        self.assertEqual(said_by((4, 9), ("load", 0), ("add", 1), ("say",), ("load", 1), ("say",)), [13, 9])
        self.assertEqual(said_by((4, 9), ("load", 0), ("take", 1), ("say",), ("load", 1), ("say",)), [-5, 9])

    def test_store_gives_it_and_leaves_the_desk(self):
        self.assertEqual(
            said_by((4, 9), ("load", 0), ("store", 1), ("say",), ("load", 1), ("say",), ("load", 0), ("say",)),
            [4, 4, 4],
        )

    def test_say_leaves_the_desk(self):
        self.assertEqual(said_by((4,), ("load", 0), ("say",), ("say",), ("add", 0), ("say",)), [4, 4, 8])

    def test_test_goes_by_0_and_leaves_the_desk(self):
        for number, wanted in ((0, [0]), (4, [4, 4]), (-4, [-4, -4])):
            program = ((number,), (("load", 0, 1), ("test", 3, 2), ("say", 3), ("say", 4), STOP))
            self.assertEqual(run(program, 9)[0], wanted)

    def test_rows_numbered_anyhow(self):
        program = ((5, 6, 7), (("load", 2, 4), STOP, ("say", 1), ("add", 0, 2), ("take", 1, 3)))
        self.assertEqual(
            run(program, 50),
            ([6], STOP, [1, 1, 1, 1, 1], [(0, 4, 1), (2, 1, 1), (3, 2, 1), (4, 3, 1)]),
        )


def far(step, *behind):
    """What is said behind doubling the step ten times; worths 2 and 3 hold 511 and 512."""
    rows = [("load", 0)] + [("store", 1), ("add", 1)] * 10
    return said_by((step, 0, 511, 512, 1), *rows, *behind, ("say",))


class TheRest(unittest.TestCase):
    def test_what_is_doubled(self):
        self.assertEqual(far(976562), [999999488])
        self.assertEqual(far(-976562), [-999999488])

    def test_up_to_the_greatest(self):
        self.assertEqual(far(976562, ("add", 2)), [999999999])
        self.assertEqual(far(976562, ("add", 3)), [-1000000000])
        self.assertEqual(far(976562, ("add", 2), ("add", 3)), [-999999489])

    def test_down_to_the_least(self):
        self.assertEqual(far(-976562, ("take", 3)), [-1000000000])
        self.assertEqual(far(-976562, ("take", 3), ("take", 4)), [999999999])
        self.assertEqual(far(-976562, ("take", 2), ("take", 3)), [999999489])

    def test_take_beyond_the_greatest_and_add_beyond_the_least(self):
        self.assertEqual(far(976562, ("store", 1), ("load", 4), ("take", 1), ("take", 3)), [-999999999])
        self.assertEqual(far(976562, ("store", 1), ("take", 1), ("take", 1), ("take", 1)), [1024])
        self.assertEqual(far(976562, ("store", 1), ("add", 1)), [-1024])

    def test_a_worth_holds_what_came_round(self):
        self.assertEqual(far(976562, ("add", 3), ("store", 0), ("load", 4), ("load", 0)), [-1000000000])
        self.assertEqual(far(976562, ("add", 3), ("store", 0), ("add", 0)), [0])

    def test_0_from_coming_round_is_0_for_a_test(self):
        rows = [("load", 0)] + [("store", 1), ("add", 1)] * 10 + [("add", 2), ("store", 1), ("add", 1)]
        whole = [(*row, number + 1) for number, row in enumerate(rows)]
        count = len(whole)
        whole += [("test", count + 2, count + 1), ("say", count + 3), STOP, STOP]
        # Twice a thousand million below 0 is 0.
        self.assertEqual(run(((976562, 0, 512), tuple(whole)), 5000)[0], [])
        self.assertEqual(run(((976562, 0, 511), tuple(whole)), 5000)[0], [-2])


class Fuel(unittest.TestCase):
    def test_0_does_nothing(self):
        self.assertEqual(run(STRAIGHT, 0), ([], ("long",), [0, 0, 0, 0], []))
        self.assertEqual(run(ONLY_STOP, 0), ([], ("long",), [0], []))

    def test_1_counts_a_go_whose_next_row_is_not_done(self):
        self.assertEqual(run(STRAIGHT, 1), ([], ("long",), [1, 0, 0, 0], [(0, 1, 1)]))
        self.assertEqual(run(ENDLESS, 1), ([0], ("long",), [1], [(0, 0, 1)]))

    def test_1_is_enough_for_a_stop(self):
        self.assertEqual(run(ONLY_STOP, 1), ([], STOP, [1], []))

    def test_just_where_the_run_ends(self):
        whole = ([2], STOP, [1, 1, 1, 1], [(0, 1, 1), (1, 2, 1), (2, 3, 1)])
        self.assertEqual(run(STRAIGHT, 3), ([2], ("long",), [1, 1, 1, 0], whole[3]))
        self.assertEqual(run(STRAIGHT, 4), whole)
        self.assertEqual(run(STRAIGHT, 5), whole)
        self.assertEqual(run(STRAIGHT, 5000), whole)

    def test_5000(self):
        self.assertEqual(run(ENDLESS, 5000), ([0] * 5000, ("long",), [5000], [(0, 0, 5000)]))

    def test_just_5000_rows_up_to_the_stop(self):
        # Two rows, 999 rounds of five, and three up to the stop.
        program = ((999, 1), (
            ("say", 6), ("load", 0, 2), ("test", 7, 3), ("take", 1, 4), ("say", 5), ("store", 0, 1),
            ("say", 1), STOP,
        ))
        said, end, done, _ = run(program, 5000)
        self.assertEqual((len(said), end, sum(done)), (1001, STOP, 2 + 5 * 999 + 3))
        self.assertEqual(run(program, 4999)[1], ("long",))

    def test_beyond_both_ends(self):
        for fuel in (-1, 5001, -(10**20), 10**20):
            self.assertEqual(refusal(run, STRAIGHT, fuel), ("BadFuel",))
        self.assertIsNone(refusal(run, STRAIGHT, 0))
        self.assertIsNone(refusal(run, STRAIGHT, 5000))

    def test_true_and_false_are_no_fuel(self):
        self.assertEqual(refusal(run, STRAIGHT, True), ("BadFuel",))
        self.assertEqual(refusal(run, STRAIGHT, False), ("BadFuel",))


class DoneAndGoes(unittest.TestCase):
    def test_a_loop(self):
        self.assertEqual(run(COUNT_DOWN, 5000), ([3, 2, 1], STOP, [4, 4, 3, 3, 3, 1], COUNT_DOWN_GOES))

    def test_a_loop_cut_short(self):
        self.assertEqual(
            run(COUNT_DOWN, 7),
            ([3], ("long",), [2, 2, 1, 1, 1, 0], [(0, 1, 2), (1, 2, 2), (2, 3, 1), (3, 4, 1), (4, 0, 1)]),
        )

    def test_a_fork(self):
        self.assertEqual(run(FORK, 9), ([0], STOP, [1, 1, 1, 0, 1], [(0, 1, 1), (1, 2, 1), (2, 4, 1)]))
        self.assertEqual(run(((1, 4), FORK[1]), 9), ([], STOP, [1, 1, 0, 1, 0], [(0, 1, 1), (1, 3, 1)]))

    def test_a_test_whose_next_rows_are_one(self):
        # The desk is 0 the first time, 1 behind that: both ways lead to row 1.
        program = ((1,), (("test", 1, 1), ("add", 0, 0)))
        self.assertEqual(run(program, 8), ([], ("long",), [4, 4], [(0, 1, 4), (1, 0, 4)]))

    def test_a_row_that_goes_to_itself(self):
        program = ((1,), (("add", 0, 0),))
        self.assertEqual(run(program, 6), ([], ("long",), [6], [(0, 0, 6)]))
        self.assertEqual(run(((), (("test", 0, 1), STOP)), 6), ([], ("long",), [6, 0], [(0, 0, 6)]))
        self.assertEqual(
            run(((1,), (("add", 0, 1), ("test", 2, 1), STOP)), 6), ([], ("long",), [1, 5, 0], [(0, 1, 1), (1, 1, 5)])
        )

    def test_goes_rise_whatever_comes_first(self):
        program = ((0, 1), (("say", 3), ("say", 4), ("load", 1, 3), ("test", 2, 1), STOP))
        self.assertEqual(
            run(program, 50),
            ([0, 1], STOP, [1, 1, 1, 2, 1], [(0, 3, 1), (1, 4, 1), (2, 3, 1), (3, 1, 1), (3, 2, 1)]),
        )

    def test_many_programs_against_a_slow_reading(self):
        numbers = Numbers(11)
        ends = []
        for _ in range(300):
            program = numbers.program()
            fuel = numbers.below(60)
            self.assertEqual(run(program, fuel), slow_run(program, fuel), (program, fuel))
            ends.append(run(program, fuel)[1])
        self.assertGreater(ends.count(STOP), 30)
        self.assertGreater(ends.count(("long",)), 30)


def slow_run(program, fuel):
    """A run read off the document, by a list of the rows that were done."""
    holds, rows = list(program[0]), program[1]
    way, said, desk, end = [0], [], 0, ("long",)
    for _ in range(fuel):
        match rows[way[-1]]:
            case ("load", worth, to):
                desk = holds[worth]
            case ("add", worth, to):
                desk += holds[worth]
            case ("take", worth, to):
                desk -= holds[worth]
            case ("store", worth, to):
                holds[worth] = desk
            case ("say", to):
                said.append(desk)
            case ("test", zero, other):
                to = other if desk else zero
            case ("stop",):
                end = STOP
                break
        way.append(to)
    done = way if end == STOP else way[:-1]
    pairs = list(zip(way, way[1:]))
    goes = [(*pair, pairs.count(pair)) for pair in sorted(set(pairs))]
    return (said, end, [done.count(row) for row in range(len(rows))], goes)


class Given(unittest.TestCase):
    def test_kinds(self):
        told = run(COUNT_DOWN, 100)
        self.assertIs(type(told), tuple)
        self.assertEqual([type(part) for part in told], [list, tuple, list, list])
        self.assertEqual({type(go) for go in told[3]}, {tuple})

    def test_a_changed_answer_changes_no_later_one(self):
        for program in (COUNT_DOWN, ENDLESS, ONLY_STOP):
            first = run(program, 40)
            for part in (first[0], first[2], first[3]):
                part.append(77)
                part[0] = 78
            self.assertEqual(run(program, 40), slow_run(program, 40))

    def test_what_is_handed_in_stays(self):
        before = repr(COUNT_DOWN)
        run(COUNT_DOWN, 5000)
        self.assertEqual(repr(COUNT_DOWN), before)


if __name__ == "__main__":
    unittest.main()

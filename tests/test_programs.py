"""What is refused as no program (points 1 and 2)."""

import unittest

from drumlay.layings import beats, costs
from drumlay.plain import run
from tests.samples import COUNT_DOWN, refusal

STOP = ("stop",)


def told(program):
    return refusal(run, program, 10)


def with_row(row, worths=(0, 0)):
    """A program of three rows in which this one is row 1."""
    return (worths, (("say", 1), row, STOP))


class Worths(unittest.TestCase):
    def test_none_and_eight(self):
        self.assertIsNone(told(((), (STOP,))))
        self.assertIsNone(told(((0,) * 8, (STOP,))))

    def test_nine(self):
        self.assertEqual(told(((0,) * 9, (STOP,))), ("BadProgram", -1, "worths"))

    def test_a_million(self):
        self.assertIsNone(told(((1000000, -1000000), (STOP,))))

    def test_beyond_a_million(self):
        for number in (1000001, -1000001, 10**50, -(10**50)):
            self.assertEqual(told(((0, number), (STOP,))), ("BadProgram", -1, "number"))

    def test_no_number(self):
        for thing in (True, False, None, "1", (), (1,)):
            self.assertEqual(told(((0, thing), (STOP,))), ("BadProgram", -1, "number"))

    def test_no_tuple(self):
        for thing in (None, True, 3, "12"):
            self.assertEqual(told((thing, (STOP,))), ("BadProgram", -1, "worths"))


class Rows(unittest.TestCase):
    def test_one_and_forty(self):
        self.assertIsNone(told(((), (STOP,))))
        self.assertIsNone(told(((), (STOP,) * 40)))

    def test_none_and_forty_one(self):
        self.assertEqual(told(((), ())), ("BadProgram", -1, "rows"))
        self.assertEqual(told(((), (STOP,) * 41)), ("BadProgram", -1, "rows"))

    def test_no_tuple(self):
        for thing in (None, False, 1, "stop"):
            self.assertEqual(told(((), thing)), ("BadProgram", -1, "rows"))

    def test_no_pair(self):
        for program in (None, True, 5, "text", ()):
            self.assertEqual(told(program), ("BadProgram", -1, "worths"))
        for program in (((),), ((), (STOP,), ())):
            self.assertEqual(told(program), ("BadProgram", -1, "rows"))


class Shape(unittest.TestCase):
    def test_each_word_as_it_should_be(self):
        for row in (
            ("load", 1, 2), ("add", 0, 2), ("take", 1, 1), ("store", 0, 0),
            ("say", 2), ("test", 0, 2), STOP,
        ):
            self.assertIsNone(told(with_row(row)), row)

    def test_no_tuple(self):
        for thing in (None, True, 4, "stop", "say"):
            self.assertEqual(told(with_row(thing)), ("BadProgram", 1, "shape"))

    def test_another_word(self):
        for row in ((), ("",), ("Stop",), ("jump", 1), (None, 1), (True,), (0, 1, 2), (("stop",),), (("say", 1), 1)):
            self.assertEqual(told(with_row(row)), ("BadProgram", 1, "shape"), row)

    def test_another_count(self):
        for word in ("load", "add", "take", "store", "test"):
            for row in ((word,), (word, 1), (word, 1, 1, 1)):
                self.assertEqual(told(with_row(row)), ("BadProgram", 1, "shape"), row)
        for row in (("say",), ("say", 1, 1), ("stop", 1), ("stop", None)):
            self.assertEqual(told(with_row(row)), ("BadProgram", 1, "shape"), row)

    def test_no_number(self):
        for thing in (True, False, None, "1", (1,), ()):
            for row in (("load", thing, 1), ("store", 0, thing), ("say", thing), ("test", thing, 1), ("test", 1, thing)):
                self.assertEqual(told(with_row(row)), ("BadProgram", 1, "shape"), row)

    def test_a_word_of_tuples_in_tuples(self):
        deep = ()
        for _ in range(50):
            deep = (deep,)
        self.assertEqual(told(with_row((deep, 1))), ("BadProgram", 1, "shape"))
        self.assertEqual(told(with_row(("say", deep))), ("BadProgram", 1, "shape"))


class Reach(unittest.TestCase):
    def test_worth_that_there_is_not(self):
        for word in ("load", "add", "take", "store"):
            for worth in (2, -1, 10**30):
                self.assertEqual(told(with_row((word, worth, 1))), ("BadProgram", 1, "worth"))
            self.assertEqual(told(with_row((word, 0, 1), ())), ("BadProgram", 1, "worth"))

    def test_next_that_there_is_not(self):
        for to in (3, -1, -(10**30)):
            for row in (
                ("load", 1, to), ("add", 1, to), ("take", 1, to), ("store", 1, to),
                ("say", to), ("test", to, 1), ("test", 1, to),
            ):
                self.assertEqual(told(with_row(row)), ("BadProgram", 1, "next"), row)

    def test_worth_as_large_as_a_row_and_the_other_way(self):
        self.assertEqual(told(((0,), (("load", 1, 1), STOP))), ("BadProgram", 0, "worth"))
        self.assertIsNone(told(((0,), (("load", 0, 1), STOP))))
        self.assertEqual(told(((0, 0, 0), (("load", 2, 2), STOP))), ("BadProgram", 0, "next"))


class WhatIsToldFirst(unittest.TestCase):
    def test_worths_then_number_then_rows_then_row(self):
        bad = ("jump",)
        self.assertEqual(told(((True,) * 9, ())), ("BadProgram", -1, "worths"))
        self.assertEqual(told(((1000001,), ())), ("BadProgram", -1, "number"))
        self.assertEqual(told(((1000001,), (bad,))), ("BadProgram", -1, "number"))
        self.assertEqual(told(((0,), (bad,) * 41)), ("BadProgram", -1, "rows"))

    def test_the_first_row_whatever_is_wrong(self):
        rows = (("say", 1), ("test", 0, 9), ("load", 9, 0), ("jump",))
        self.assertEqual(told(((0,), rows)), ("BadProgram", 1, "next"))
        self.assertEqual(told(((0,), (rows[0], rows[2], rows[1]))), ("BadProgram", 1, "worth"))
        self.assertEqual(told(((0,), (rows[0], rows[3], rows[1]))), ("BadProgram", 1, "shape"))

    def test_shape_ahead_of_worth_and_next(self):
        for row in (("load", 9, None), ("load", True, 9), ("test", 9, "1"), ("load", 9, 9, 9), ("say", 9, 1)):
            self.assertEqual(told(with_row(row)), ("BadProgram", 1, "shape"), row)

    def test_worth_ahead_of_next(self):
        for word in ("load", "add", "take", "store"):
            self.assertEqual(told(with_row((word, 2, 3))), ("BadProgram", 1, "worth"))

    def test_rows_that_are_never_come_to_count_too(self):
        self.assertEqual(told(((), (STOP, ("say", 2)))), ("BadProgram", 1, "next"))

    def test_program_ahead_of_fuel_laying_and_goes(self):
        bad = ((), (("say", 1),))
        wanted = ("BadProgram", 0, "next")
        self.assertEqual(refusal(run, bad, -1), wanted)
        self.assertEqual(refusal(run, bad, 5001), wanted)
        self.assertEqual(refusal(costs, bad, (1, (), ())), wanted)
        self.assertEqual(refusal(beats, bad, (1, (), ()), [(0, 0, 0)]), wanted)
        self.assertEqual(refusal(beats, bad, (2, (0,), ()), []), wanted)

    def test_a_program_is_no_bad_one(self):
        self.assertIsNone(told(COUNT_DOWN))


if __name__ == "__main__":
    unittest.main()

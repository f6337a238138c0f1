"""What is refused as no laying (points 1 and 5)."""

import unittest

from drumlay.layings import beats, costs
from tests.samples import COUNT_DOWN, ONLY_STOP, STRAIGHT, refusal

HOMES = ((0,), (1, 2))


def told(laying, program=STRAIGHT):
    return refusal(costs, program, laying)


def with_places(*places):
    return (6, places, HOMES)


def with_homes(*homes):
    return (6, (0, 1, 2, 3), homes)


class Wide(unittest.TestCase):
    def test_2_and_24(self):
        self.assertIsNone(told((2, (0, 1, 1, 0), ((0, 1), (1,)))))
        self.assertIsNone(told((24, (0, 23, 1, 0), ((0, 1, 23), (23,)))))

    def test_beyond(self):
        for wide in (1, 25, 0, -3, 10**20):
            self.assertEqual(told((wide, (0, 0, 0, 0), ((0,), (0,)))), ("BadLaying", "wide", 0))

    def test_true_is_no_number(self):
        self.assertEqual(told((True, (0, 0, 0, 0), ((0,), (0,)))), ("BadLaying", "wide", 0))


class Places(unittest.TestCase):
    def test_0_and_the_last(self):
        self.assertIsNone(told(with_places(0, 5, 0, 5)))

    def test_all_at_one_place(self):
        self.assertIsNone(told((6, (3, 3, 3, 3), ((3,), (3,)))))

    def test_another_count(self):
        for places in ((), (0,), (0, 1, 2), (0, 1, 2, 3, 4)):
            self.assertEqual(told(with_places(*places)), ("BadLaying", "places", -1))

    def test_the_first_that_can_not_be(self):
        self.assertEqual(told(with_places(6, 1, 2, 3)), ("BadLaying", "places", 0))
        self.assertEqual(told(with_places(0, 1, 2, -1)), ("BadLaying", "places", 3))
        self.assertEqual(told(with_places(0, 1, 6, -1)), ("BadLaying", "places", 2))
        self.assertEqual(told(with_places(0, True, 2, 3)), ("BadLaying", "places", 1))

    def test_the_last_place_of_the_least_and_the_greatest_drum(self):
        for wide in (2, 24):
            self.assertIsNone(told((wide, (wide - 1,) * 4, ((wide - 1,), (0, wide - 1)))))
            self.assertEqual(told((wide, (0, 0, 0, wide), ((0,), (0,)))), ("BadLaying", "places", 3))


class Homes(unittest.TestCase):
    def test_one_to_three(self):
        for home in ((0,), (5,), (0, 5), (0, 1, 2), (3, 4, 5), (0, 2, 5)):
            self.assertIsNone(told(with_homes((2,), home)), home)

    def test_two_worths_at_one_place(self):
        self.assertIsNone(told(with_homes((2, 4), (2, 4))))

    def test_another_count(self):
        for homes in ((), ((0,),), ((0,), (1,), (2,))):
            self.assertEqual(told(with_homes(*homes)), ("BadLaying", "homes", -1))

    def test_no_worths_no_homes(self):
        self.assertIsNone(told((2, (1,), ()), ONLY_STOP))
        self.assertEqual(told((2, (1,), ((0,),)), ONLY_STOP), ("BadLaying", "homes", -1))

    def test_the_first_that_can_not_be(self):
        for home in ((), (0, 1, 2, 3), (1, 0), (2, 2), (0, 2, 1), (0, 1, 1), (6,), (-1,), (0, 6), (-1, 0), (True,)):
            self.assertEqual(told(with_homes(home, (0,))), ("BadLaying", "homes", 0), home)
            self.assertEqual(told(with_homes((0,), home)), ("BadLaying", "homes", 1), home)
            self.assertEqual(told(with_homes(home, home)), ("BadLaying", "homes", 0), home)


class WhatIsToldFirst(unittest.TestCase):
    def test_wide_then_places_then_homes(self):
        self.assertEqual(told((1, (), ())), ("BadLaying", "wide", 0))
        self.assertEqual(told((25, (9, 9, 9, 9), ((), ()))), ("BadLaying", "wide", 0))
        self.assertEqual(told((6, (), ())), ("BadLaying", "places", -1))
        self.assertEqual(told((6, (0, 1, 2, 6), ())), ("BadLaying", "places", 3))
        self.assertEqual(told((6, (0, 1, 2, 6), ((), ()))), ("BadLaying", "places", 3))
        self.assertEqual(told((6, (0, 1, 2, 3), ((),))), ("BadLaying", "homes", -1))

    def test_a_tuple_of_another_count(self):
        self.assertEqual(told(()), ("BadLaying", "wide", 0))
        self.assertEqual(told((6,)), ("BadLaying", "places", -1))
        self.assertEqual(told((6, (0, 1, 2, 3))), ("BadLaying", "homes", -1))
        self.assertEqual(told((*with_homes((0,), (1,)), ())), ("BadLaying", "homes", -1))

    def test_laying_ahead_of_goes(self):
        bad = (6, (0, 1, 2, 3, 4, 6), ((0,), (0,)))
        self.assertEqual(refusal(beats, COUNT_DOWN, bad, []), ("BadLaying", "places", 5))
        self.assertEqual(refusal(beats, COUNT_DOWN, bad, [(9, 9, 0)]), ("BadLaying", "places", 5))
        self.assertEqual(refusal(costs, COUNT_DOWN, bad), ("BadLaying", "places", 5))


if __name__ == "__main__":
    unittest.main()

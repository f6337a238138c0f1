"""What stands on the drum, and the doing of it (points 1, 4, 5 and 13)."""

import unittest

from drumlay.drums import spun
from drumlay.images import image, reeled, tracks
from drumlay.plain import run
from tests.samples import (
    COUNT_DOWN, COUNT_DOWN_LAYING, ENDLESS, FORK, ONLY_STOP, STRAIGHT, Numbers, refusal, rows_behind,
)

STOP = ("stop",)
LONG = ("long",)
USES = ("load", "add", "take", "store")


def slow_image(program, laying):
    """Tracks and image read off the document, place by place."""
    (worths, rows), (wide, places, homes) = program, laying
    stack = {place: [] for place in range(wide)}
    for place in range(wide):
        stack[place] += [("row", row) for row in range(len(rows)) if places[row] == place]
        stack[place] += [("worth", worth) for worth in range(len(worths)) if place in homes[worth]]

    def spot(place, sort, number):
        return (place, stack[place].index((sort, number)))

    cells = []
    for place in range(wide):
        for sort, number in stack[place]:
            what = ("worth", worths[number]) if sort == "worth" else (rows[number][0],)
            if sort == "row" and what[0] in USES:
                worth = rows[number][1]
                what += (tuple(spot(home, "worth", worth) for home in homes[worth]),)
            if sort == "row":
                what += tuple(spot(places[to], "row", to) for to in rows_behind(rows[number]))
            cells.append((spot(place, sort, number), what))
    return max(len(things) for things in stack.values()), (wide, spot(places[0], "row", 0), cells)


def exchanged(numbers, told, many):
    """The same with the tracks of each place in another turn, in all that stands there."""
    turn = {}
    for place in range(told[0]):
        left = list(range(many))
        for track in range(many):
            turn[(place, track)] = (place, left.pop(numbers.below(len(left))))

    def other(what):
        if what in turn:
            return turn[what]
        return tuple(other(thing) if isinstance(thing, tuple) else thing for thing in what)

    cells = [(turn[spot], what if what[0] == "worth" else other(what)) for spot, what in told[2]]
    return (told[0], turn[told[1]], sorted(cells))


class Tracks(unittest.TestCase):
    def test_one_is_needed(self):
        self.assertEqual(tracks(ONLY_STOP, (2, (1,), ())), 1)
        self.assertEqual(tracks(STRAIGHT, (6, (0, 1, 2, 3), ((4,), (5,)))), 1)

    def test_rows_at_one_place(self):
        self.assertEqual(tracks(STRAIGHT, (6, (0, 1, 0, 3), ((4,), (5,)))), 2)
        self.assertEqual(tracks(STRAIGHT, (6, (5, 5, 5, 5), ((4,), (3,)))), 4)

    def test_worths_at_one_place_each_by_each_home(self):
        self.assertEqual(tracks(STRAIGHT, (7, (0, 1, 2, 3), ((4,), (4,)))), 2)
        self.assertEqual(tracks(STRAIGHT, (7, (0, 1, 2, 3), ((4, 5, 6), (4, 5, 6)))), 2)
        self.assertEqual(tracks(STRAIGHT, (7, (0, 1, 2, 3), ((0, 5, 6), (0, 4)))), 3)

    def test_homes_of_one_worth_share_no_place(self):
        self.assertEqual(tracks(STRAIGHT, (7, (0, 1, 2, 3), ((4, 5, 6), (1,)))), 2)

    def test_rows_and_worths_at_one_place(self):
        self.assertEqual(tracks(STRAIGHT, (3, (2, 2, 2, 2), ((2,), (0, 1, 2)))), 6)
        self.assertEqual(tracks(COUNT_DOWN, COUNT_DOWN_LAYING), 2)

    def test_worths_that_no_row_uses(self):
        self.assertEqual(tracks(((1, 2, 3), (STOP,)), (4, (0,), ((0, 1), (0, 2), (0, 3)))), 4)

    def test_all_there_may_be_at_one_place(self):
        self.assertEqual(tracks(((0,) * 8, (STOP,) * 40), (24, (23,) * 40, ((23,),) * 8)), 48)


class Image(unittest.TestCase):
    def test_a_stop_alone(self):
        self.assertEqual(image(ONLY_STOP, (2, (1,), ())), (2, (1, 0), [((1, 0), STOP)]))

    def test_a_straight_program(self):
        self.assertEqual(image(STRAIGHT, (6, (0, 1, 2, 3), ((4,), (5,)))), (6, (0, 0), [
            ((0, 0), ("load", ((4, 0),), (1, 0))),
            ((1, 0), ("add", ((5, 0),), (2, 0))),
            ((2, 0), ("say", (3, 0))),
            ((3, 0), STOP),
            ((4, 0), ("worth", 7)),
            ((5, 0), ("worth", -5)),
        ]))

    def test_two_and_three_homes(self):
        first, second = ((1, 1), (3, 0)), ((0, 1), (2, 1), (5, 1))
        self.assertEqual(image(COUNT_DOWN, COUNT_DOWN_LAYING), (6, (2, 0), [
            ((0, 0), ("say", (4, 1))),
            ((0, 1), ("worth", 1)),
            ((1, 0), STOP),
            ((1, 1), ("worth", 3)),
            ((2, 0), ("load", first, (4, 0))),
            ((2, 1), ("worth", 1)),
            ((3, 0), ("worth", 3)),
            ((4, 0), ("test", (1, 0), (0, 0))),
            ((4, 1), ("take", second, (5, 0))),
            ((5, 0), ("store", first, (2, 0))),
            ((5, 1), ("worth", 1)),
        ]))

    def test_all_at_one_place(self):
        program = ((8, 9), (("test", 2, 1), ("store", 1, 0), STOP))
        self.assertEqual(image(program, (4, (3, 3, 3), ((3,), (0, 3)))), (4, (3, 0), [
            ((0, 0), ("worth", 9)),
            ((3, 0), ("test", (3, 2), (3, 1))),
            ((3, 1), ("store", ((0, 0), (3, 4)), (3, 0))),
            ((3, 2), STOP),
            ((3, 3), ("worth", 8)),
            ((3, 4), ("worth", 9)),
        ]))

    def test_begin_is_row_0_wherever_it_lies(self):
        program = ((), (("test", 1, 2), STOP, STOP))
        for place in range(5):
            self.assertEqual(image(program, (5, (place, 4, 0), ()))[:2], (5, (place, 0)))

    def test_worths_that_no_row_uses(self):
        self.assertEqual(image(((-4, 6), (STOP,)), (9, (8,), ((1, 8), (0, 1, 2)))), (9, (8, 0), [
            ((0, 0), ("worth", 6)), ((1, 0), ("worth", -4)), ((1, 1), ("worth", 6)), ((2, 0), ("worth", 6)),
            ((8, 0), STOP), ((8, 1), ("worth", -4)),
        ]))

    def test_a_test_both_of_whose_nexts_are_one_row(self):
        told = image(((), (("test", 0, 0),)), (3, (2,), ()))
        self.assertEqual(told, (3, (2, 0), [((2, 0), ("test", (2, 0), (2, 0)))]))

    def test_more_than_ten_tracks_rise_as_numbers(self):
        program = ((5,), (("load", 0, 12),) + (STOP,) * 12)
        told = image(program, (2, (1,) * 13, ((1,),)))
        self.assertEqual([spot for spot, _ in told[2]], [(1, track) for track in range(14)])
        self.assertEqual(told[2][0], ((1, 0), ("load", ((1, 13),), (1, 12))))

    def test_many_place_by_place(self):
        numbers = Numbers(14)
        for most_homes in (1, 2, 3):
            for _ in range(100):
                program = numbers.program(12)
                laying = numbers.laying(program, most_homes)
                wanted = slow_image(program, laying)
                self.assertEqual((tracks(program, laying), image(program, laying)), wanted, (program, laying))
                self.assertEqual(wanted[1][2], sorted(wanted[1][2]))


class Reeled(unittest.TestCase):
    def both(self, program, laying, fuel):
        told = reeled(image(program, laying), fuel)
        self.assertEqual(told, spun(program, laying, fuel), (program, laying, fuel))
        return told

    def test_a_stop_alone(self):
        self.assertEqual(self.both(ONLY_STOP, (24, (23,), ()), 0), ([], LONG, 0))
        self.assertEqual(self.both(ONLY_STOP, (24, (23,), ()), 1), ([], STOP, 24))

    def test_just_where_it_ends(self):
        self.assertEqual(self.both(COUNT_DOWN, COUNT_DOWN_LAYING, 17), ([3, 2, 1], LONG, 102))
        for fuel in (18, 19, 5000):
            self.assertEqual(self.both(COUNT_DOWN, COUNT_DOWN_LAYING, fuel), ([3, 2, 1], STOP, 104))

    def test_what_does_not_stop(self):
        self.assertEqual(self.both(ENDLESS, (2, (1,), ()), 5000), ([0] * 5000, LONG, 1 + 4 * 5000))

    def test_the_rest_by_2000000000(self):
        rows = [("load", 0, 1)]
        for _ in range(11):
            rows += [("store", 1, len(rows) + 1), ("add", 1, len(rows) + 2)]
        rows += [("say", len(rows) + 1), STOP]
        for worth in (976562, -976562, 1000000, -1000000):
            said, end, _ = self.both(((worth, 0), tuple(rows)), (3, (2,) * len(rows), ((0,), (0, 1))), 5000)
            self.assertEqual((said, end), ([(worth * 2048 + 10**9) % (2 * 10**9) - 10**9], STOP))

    def test_a_store_to_three_homes_read_again_from_each(self):
        # Each load lies just ahead of another home, so each home is read by one of them.
        rows = [("load", 0, 1), ("store", 1, 2)]
        for _ in range(3):
            rows += [("load", 1, len(rows) + 1), ("say", len(rows) + 2)]
        program = ((6, 2), (*rows, STOP))
        for places in ((2, 5, 8), (8, 5, 2), (5, 2, 8)):
            laying = (10, (0, 1, places[0], 0, places[1], 0, places[2], 0, 0), ((0,), (3, 6, 9)))
            self.assertEqual(self.both(program, laying, 50)[:2], ([6, 6, 6], STOP))
            once = ((6, 2), (("say", 2), *program[1][1:]))
            self.assertEqual(self.both(once, laying, 50)[0][1:], [2, 2, 2])

    def test_a_loop_by_homes_read_in_turn(self):
        # Counted up in worth 0, which is stored to three homes and loaded from another one each time.
        program = ((0, 1), (
            ("load", 0, 1), ("add", 1, 2), ("store", 0, 3), ("say", 4), ("load", 0, 5), ("say", 6), ("load", 0, 7),
            ("say", 0),
        ))
        for homes in ((1,), (1, 4), (1, 4, 7)):
            laying = (9, (0, 2, 5, 8, 3, 1, 6, 4), (homes, (0, 3, 6)))
            said, _, _ = self.both(program, laying, 5 + 80)
            self.assertEqual(said[:6], [1, 1, 1, 2, 2, 2])

    def test_many_beside_spun(self):
        numbers, ends = Numbers(24), []
        for _ in range(300):
            program = numbers.program()
            laying = numbers.laying(program)
            done = sum(run(program, 60)[2])
            for fuel in (0, 1, done - 1, done, 60):
                ends.append(self.both(program, laying, max(0, fuel))[1])
        for _ in range(20):
            program = numbers.program()
            ends.append(self.both(program, numbers.laying(program), 5000)[1])
        self.assertGreater(min(ends.count(STOP), ends.count(LONG)), 200)

    def test_fuel(self):
        for told in (image(ONLY_STOP, (2, (0,), ())), image(COUNT_DOWN, COUNT_DOWN_LAYING)):
            for fuel in (-1, 5001, 10**20, -(10**20), True, False, None, "1"):
                self.assertEqual(refusal(reeled, told, fuel), ("BadFuel",))
            for fuel in (0, 1, 4999, 5000):
                self.assertIsNone(refusal(reeled, told, fuel))


class Exchanged(unittest.TestCase):
    def test_two_tracks_of_one_place(self):
        # Row 0 and worth 0 at place 1: the row is on track 1 now.
        first = ((1, 0), (3, 0))
        told = (5, (1, 1), [
            ((0, 0), ("say", (2, 0))),
            ((1, 0), ("worth", 7)),
            ((1, 1), ("load", first, (0, 0))),
            ((2, 0), STOP),
            ((3, 0), ("worth", 7)),
        ])
        program, laying = ((7,), (("load", 0, 1), ("say", 2), STOP)), (5, (1, 0, 2), ((1, 3),))
        self.assertNotEqual(image(program, laying), told)
        self.assertEqual(reeled(told, 9), spun(program, laying, 9))
        self.assertEqual(reeled(told, 9), ([7], STOP, 13))

    def test_many(self):
        numbers, other = Numbers(34), 0
        for _ in range(300):
            program = numbers.program()
            laying = numbers.laying(program)
            told, many = image(program, laying), tracks(program, laying)
            for more in (0, 2):
                turned = exchanged(numbers, told, many + more)
                other += turned != told
                for fuel in (0, 1, 2, 40):
                    self.assertEqual(reeled(turned, fuel), spun(program, laying, fuel), (turned, fuel))
        self.assertGreater(other, 300)


class Refused(unittest.TestCase):
    def test_program_then_laying(self):
        for function in (tracks, image):
            self.assertEqual(refusal(function, ((), (("say", 1),)), (1, (), ())), ("BadProgram", 0, "next"))
            self.assertEqual(refusal(function, ((), ()), (2, (), ())), ("BadProgram", -1, "rows"))
            self.assertEqual(refusal(function, FORK, (25, (), ())), ("BadLaying", "wide", 0))
            self.assertEqual(refusal(function, FORK, (5, (0, 1, 5, 9, 0), ())), ("BadLaying", "places", 2))
            self.assertEqual(refusal(function, FORK, (5, (0, 1, 4, 4, 0), ((0,),))), ("BadLaying", "homes", -1))
            self.assertEqual(refusal(function, FORK, (5, (0, 1, 4, 4, 0), ((0,), (3, 2)))), ("BadLaying", "homes", 1))


class Given(unittest.TestCase):
    def test_kinds(self):
        self.assertIs(type(tracks(COUNT_DOWN, COUNT_DOWN_LAYING)), int)
        told = image(COUNT_DOWN, COUNT_DOWN_LAYING)
        self.assertEqual((type(told), [type(thing) for thing in told]), (tuple, [int, tuple, list]))
        for cell in told[2]:
            self.assertEqual((type(cell), [type(thing) for thing in cell]), (tuple, [tuple, tuple]))
        told = reeled(told, 5)
        self.assertEqual((type(told), [type(thing) for thing in told]), (tuple, [list, tuple, int]))

    def test_a_changed_answer_changes_no_later_one(self):
        first = image(COUNT_DOWN, COUNT_DOWN_LAYING)
        kept = list(first[2])
        first[2].pop()
        first[2][0] = "x"
        self.assertEqual(image(COUNT_DOWN, COUNT_DOWN_LAYING), (6, (2, 0), kept))
        told = image(COUNT_DOWN, COUNT_DOWN_LAYING)
        reeled(told, 18)[0].append(9)
        self.assertEqual(reeled(told, 18), ([3, 2, 1], STOP, 104))

    def test_what_is_handed_to_reeled_stays_and_is_done_twice_the_same(self):
        told = image(COUNT_DOWN, COUNT_DOWN_LAYING)
        before = repr(told)
        self.assertEqual([reeled(told, 18) for _ in range(3)], [([3, 2, 1], STOP, 104)] * 3)
        self.assertEqual(repr(told), before)
        # The worth stays as image tells it, though it was stored to.
        self.assertEqual(repr(image(COUNT_DOWN, COUNT_DOWN_LAYING)), before)

    def test_reeled_knows_nothing_else(self):
        told = image(COUNT_DOWN, COUNT_DOWN_LAYING)
        image(STRAIGHT, (6, (0, 1, 2, 3), ((4,), (5,))))
        spun(FORK, (5, (0, 1, 2, 3, 4), ((1,), (1,))), 9)
        self.assertEqual(reeled(told, 18), ([3, 2, 1], STOP, 104))
        more = (told[0], told[1], [(spot, ("worth", 5) if what == ("worth", 3) else what) for spot, what in told[2]])
        self.assertEqual(reeled(more, 5000)[0], [5, 4, 3, 2, 1])

    def test_what_is_handed_in_stays(self):
        before = repr((COUNT_DOWN, COUNT_DOWN_LAYING))
        tracks(COUNT_DOWN, COUNT_DOWN_LAYING)
        image(COUNT_DOWN, COUNT_DOWN_LAYING)
        self.assertEqual(repr((COUNT_DOWN, COUNT_DOWN_LAYING)), before)


if __name__ == "__main__":
    unittest.main()

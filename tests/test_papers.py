"""Papers and the bounds that they show (points 1, 8, 10 and 11)."""

import unittest

from drumlay.best import best
from drumlay.layings import beats
from drumlay.papers import bound, paper
from tests.samples import COUNT_DOWN, COUNT_DOWN_GOES, FORK, ONLY_STOP, STRAIGHT, WORK, Numbers, refusal, way_goes

STOP = ("stop",)
USES = ("load", "add", "take", "store")

# The loop of COUNT_DOWN: five first halves, second ones of 2, 1, 3, 3 and 2.
LOOP = (0, 1, 2, 3, 4, 0)


def shown(told, wide=10, program=COUNT_DOWN, goes=COUNT_DOWN_GOES):
    return bound(program, wide, goes, told)


def refused(told, program=COUNT_DOWN, goes=COUNT_DOWN_GOES):
    return refusal(bound, program, 10, goes, told)


def slow_bound(program, wide, goes, told):
    """What a paper shows, read off the document: a list of halves, crossed out one by one."""
    rows = program[1]
    halves = [("first", 0)]
    for row, to, many in goes:
        halves += [("second", row, to), ("first", to)] * many
    whole = 0
    for sort, way, many in told:
        seconds = [("second", *pair) for pair in zip(way, way[1:])]
        firsts = [("first", row) for row in (way[:-1] if sort == "row" else way[1:])]
        for _ in range(many):
            sum_of_halves = 0
            for half in firsts + seconds:
                halves.remove(half)
                sum_of_halves += slow_least(rows, half)
            while sum_of_halves % wide:
                sum_of_halves += 1
            whole += sum_of_halves
    return whole + sum(slow_least(rows, half) for half in halves)


def slow_least(rows, half):
    word = rows[half[1]][0]
    return 1 if half[0] == "first" else WORK[word] + (word in USES)


def some_paper(numbers, program, goes, tries):
    """A paper of ways that go anyhow along the goes, as often as bound lets each."""
    ahead, told = {}, []
    for row, to, _ in goes:
        ahead.setdefault(row, []).append(to)
    for _ in range(tries):
        way = [goes[numbers.below(len(goes))][0]]
        for _ in range(1 + numbers.below(9)):
            if way[-1] in ahead:
                way.append(ahead[way[-1]][numbers.below(len(ahead[way[-1]]))])
        for sort in ("row", "worth"):
            entry = (sort, tuple(way), 1 + numbers.below(2))
            if refusal(bound, program, 5, goes, [*told, entry]) is None:
                told.append(entry)
    return told


class Empty(unittest.TestCase):
    def test_a_stop_alone(self):
        for wide in (2, 24):
            self.assertEqual(bound(ONLY_STOP, wide, [], []), 1)

    def test_each_word(self):
        for word, wanted in (("load", 3), ("add", 4), ("take", 4), ("store", 3)):
            self.assertEqual(bound(((0,), ((word, 0, 1), STOP)), 7, [(0, 1, 1)], []), wanted + 1)
        self.assertEqual(bound(((), (("say", 1), STOP)), 7, [(0, 1, 1)], []), 5)
        self.assertEqual(bound(((), (("test", 1, 1), STOP)), 7, [(0, 1, 1)], []), 3)

    def test_a_loop(self):
        # 18 rows are done; second halves of 2, 1, 3, 3 and 2.
        self.assertEqual(shown([]), 18 + 4 * 2 + 4 * 1 + 3 * 3 + 3 * 3 + 3 * 2)

    def test_a_half_for_each_go(self):
        goes = [(0, 1, 1), (1, 2, 1), (2, 4, 1)]
        self.assertEqual(bound(FORK, 5, goes, []), 3 + 2 + 4 + 1)
        self.assertEqual(bound(FORK, 5, [(0, 1, 1), (1, 3, 1)], []), 3 + 2 + 1)

    def test_wide_does_not_matter(self):
        self.assertEqual({shown([], wide) for wide in range(2, 25)}, {54})


class Ways(unittest.TestCase):
    def test_a_row_way(self):
        # 16 beats at the least.
        for wide, gain in ((2, 0), (3, 2), (5, 4), (6, 2), (8, 0), (10, 4), (15, 14), (16, 0), (17, 1), (24, 8)):
            self.assertEqual(shown([("row", LOOP, 1)], wide), 54 + gain, wide)
            self.assertEqual(shown([("row", LOOP, 3)], wide), 54 + 3 * gain, wide)

    def test_a_row_way_from_another_row(self):
        for at in range(5):
            self.assertEqual(shown([("row", LOOP[at:] + LOOP[1:at + 1], 3)]), 54 + 12)

    def test_a_worth_way(self):
        # From the load of worth 0 to its store: 2, 1, 3, 3 and four first halves; back: 2 and one.
        for wide, there, back in ((2, 1, 1), (3, 2, 0), (10, 7, 7), (13, 0, 10), (24, 11, 21)):
            self.assertEqual(shown([("worth", (0, 1, 2, 3, 4), 1)], wide), 54 + there, wide)
            self.assertEqual(shown([("worth", (4, 0), 1)], wide), 54 + back, wide)
            self.assertEqual(shown([("worth", (4, 0), 3), ("worth", (0, 1, 2, 3, 4), 3)], wide), 54 + 3 * (there + back))

    def test_a_worth_way_from_a_row_to_itself(self):
        for at in (0, 3, 4):
            way = LOOP[at:] + LOOP[1:at + 1]
            self.assertEqual(shown([("worth", way, 2), ("row", way, 1)]), 54 + 12)

    def test_first_halves_are_those_behind_the_first_use(self):
        # Row 0 is an add: 1, and 3; row 1 a load: 1, and 2. From use to use 3 + 1, from there on 2, ahead 1.
        program = ((0,), (("add", 0, 1), ("load", 0, 2), STOP))
        goes = [(0, 1, 1), (1, 2, 1)]
        self.assertEqual(bound(program, 4, goes, [("worth", (0, 1), 1)]), 8)
        self.assertEqual(bound(program, 5, goes, [("worth", (0, 1), 1)]), 9)
        program = ((0,), (("load", 0, 1), ("add", 0, 2), STOP))
        self.assertEqual(bound(program, 3, goes, [("worth", (0, 1), 1)]), 8)
        self.assertEqual(bound(program, 4, goes, [("worth", (0, 1), 1)]), 9)

    def test_ways_that_come_to_a_row_more_than_once(self):
        self.assertEqual(shown([("row", LOOP + LOOP[1:], 1)]), 54 + 8)
        self.assertEqual(shown([("row", LOOP + LOOP[1:] * 2, 1)]), 54 + 2)
        self.assertEqual(shown([("worth", LOOP + LOOP[1:5], 1)]), 54 + 1)
        self.assertEqual(shown([("row", LOOP + LOOP[1:], 1), ("row", LOOP, 1)]), 54 + 12)

    def test_a_row_that_goes_to_itself(self):
        program, goes = ((), (("test", 0, 1), STOP)), [(0, 0, 7), (0, 1, 1)]
        self.assertEqual(bound(program, 5, goes, []), 8 * 2 + 1)
        self.assertEqual(bound(program, 5, goes, [("row", (0, 0), 7)]), 7 * 5 + 2 + 1)
        self.assertEqual(bound(program, 5, goes, [("row", (0, 0, 0), 3)]), 3 * 5 + 2 * 2 + 1)
        self.assertEqual(bound(program, 5, goes, [("row", (0,) * 8, 1)]), 15 + 2 + 1)

    def test_a_way_needs_not_be_gone_in_one_piece(self):
        # The run never goes from row 1 by way of row 2 to row 1, but each of these goes often enough.
        program = ((), (("test", 1, 2), ("say", 0), ("test", 0, 3), STOP))
        goes = way_goes([0, 1, 0, 1, 0, 2, 0, 2, 3])
        for way, least in (((0, 1, 0, 2, 0), 10), ((1, 0, 2, 0, 1), 10), ((2, 0, 1, 0, 1, 0, 2), 16)):
            told = bound(program, 11, goes, [("row", way, 1)])
            self.assertEqual(told, bound(program, 11, goes, []) + (-least) % 11)

    def test_goes_without_end(self):
        many = 10**15
        goes = [(0, 1, many + 1), (1, 5, 1), (1, 2, many), (2, 3, many), (3, 4, many), (4, 0, many)]
        self.assertEqual(shown([("row", LOOP, many)], 10, goes=goes), 20 * many + 6)
        self.assertEqual(refused([("row", LOOP, many + 1)], goes=goes), ("BadPaper", 0))

    def test_many_against_halves_crossed_out(self):
        numbers, tried, worths = Numbers(55), 0, 0
        while tried < 120:
            program = numbers.program(12)
            way, wide = numbers.way(program), 2 + numbers.below(23)
            if way is None or len(way) < 9:
                continue
            tried += 1
            goes = way_goes(way)
            told = some_paper(numbers, program, goes, 30)
            worths += [entry[0] for entry in told].count("worth")
            self.assertEqual(bound(program, wide, goes, told), slow_bound(program, wide, goes, told))
            self.assertEqual(bound(program, wide, goes[::-1], told[::-1]), slow_bound(program, wide, goes, told))
        self.assertGreater(worths, 30)


class BadPaper(unittest.TestCase):
    GOOD = ("row", LOOP, 1)

    def bad(self, entry):
        """Refused at each place of a paper."""
        self.assertEqual(refused([entry]), ("BadPaper", 0), entry)
        self.assertEqual(refused([self.GOOD, self.GOOD, entry]), ("BadPaper", 2), entry)
        self.assertEqual(refused([self.GOOD, entry, entry, self.GOOD]), ("BadPaper", 1), entry)

    def test_a_way_of_fewer_than_two_rows(self):
        for sort in ("row", "worth"):
            for way in ((), (0,), (4,)):
                self.bad((sort, way, 1))

    def test_a_go_that_was_not_gone(self):
        for way in ((0, 2), (0, 0), (4, 0, 4), (0, 1, 2, 3, 0), (5, 5), (9, 9), (-6, 1, 2, 3, 4, 0), (0, 1, 2, 3, 4, 6)):
            for sort in ("row", "worth"):
                self.bad((sort, way, 1))

    def test_a_go_that_may_be_but_was_not_gone(self):
        program = ((0,), (("load", 0, 1), ("test", 2, 3), ("load", 0, 1), STOP))
        self.assertEqual(refused([("worth", (0, 1, 2), 1)], program, way_goes([0, 1, 3])), ("BadPaper", 0))
        self.assertIsNone(refused([("worth", (0, 1, 2), 1)], program, way_goes([0, 1, 2, 1, 3])))

    def test_a_last_row_that_does_not_fit(self):
        for way in ((0, 1), (0, 1, 2, 3, 4), LOOP[1:], (4, 0)):
            self.bad(("row", way, 1))
        for way in ((0, 1), (0, 1, 2, 3), (3, 4), (1, 2, 3, 4, 0, 1), (2, 3, 4, 0, 1, 2), (3, 4, 0), (1, 5)):
            self.bad(("worth", way, 1))

    def test_rows_without_a_worth_have_no_worth_in_common(self):
        # The number behind say and test is that of a row.
        program = ((0,), (("say", 1), ("test", 1, 2), ("load", 0, 3), STOP))
        goes = way_goes([0, 1, 1, 2, 3])
        self.assertEqual(refused([("worth", (0, 1), 1)], program, goes), ("BadPaper", 0))
        self.assertEqual(refused([("worth", (1, 1), 1)], program, goes), ("BadPaper", 0))
        self.assertEqual(refused([("worth", (1, 2), 1)], program, goes), ("BadPaper", 0))
        self.assertEqual(refused([("worth", (2, 3), 1)], program, goes), ("BadPaper", 0))

    def test_another_word(self):
        for sort in ("", "Row", "rows", "worths", "way", "row ", "load", None, True, 0, ("row",)):
            self.bad((sort, LOOP, 1))

    def test_many_of_0_or_less(self):
        for many in (0, -1, -(10**20), True, False, None):
            self.bad(("row", LOOP, many))
            self.bad(("worth", LOOP, many))

    def test_true_and_false_are_no_rows(self):
        self.bad(("row", (False, 1, 2, 3, 4, False), 1))
        self.bad(("row", (0, True, 2, 3, 4, 0), 1))

    def test_another_count(self):
        self.bad(())
        self.bad(("row",))
        self.bad(("row", LOOP))
        self.bad(("row", LOOP, 1, 1))

    def test_a_half_taken_once_too_often_by_one(self):
        for sort, way, most in (
            ("row", LOOP, 3), ("row", LOOP + LOOP[1:], 1), ("row", LOOP + LOOP[1:] * 2, 1),
            ("worth", (4, 0), 3), ("worth", (0, 1, 2, 3, 4), 3), ("worth", LOOP[3:] + LOOP[1:4], 3),
        ):
            self.assertIsNone(refused([(sort, way, most)]))
            self.assertEqual(refused([(sort, way, most + 1)]), ("BadPaper", 0))
            self.assertEqual(refused([(sort, way, 10**20)]), ("BadPaper", 0))
        self.assertEqual(refused([("row", LOOP + LOOP[1:] * 3, 1)]), ("BadPaper", 0))

    def test_a_half_taken_once_too_often_by_two_together(self):
        back, there = ("worth", (4, 0), 1), ("worth", (0, 1, 2, 3, 4), 3)
        for told, wanted in (
            ([("row", LOOP, 2), ("row", LOOP, 1)], None),
            ([("row", LOOP, 2), ("row", LOOP, 2)], 1),
            ([("row", LOOP, 1), ("row", LOOP, 1), ("row", LOOP, 1), ("row", LOOP, 1)], 3),
            ([back, ("row", LOOP, 2), there], 2),
            ([back, ("row", LOOP, 3), there], 1),
            ([back, there, back, back], None),
            ([back, there, back, back, back], 4),
            ([("row", LOOP, 2), ("row", LOOP[2:] + LOOP[1:3], 2)], 1),
        ):
            self.assertEqual(refused(told), None if wanted is None else ("BadPaper", wanted))

    def test_a_go_that_two_ways_share(self):
        program = ((0,), (("load", 0, 1), ("test", 2, 3), ("store", 0, 1), STOP))
        goes = way_goes([0, 1, 2, 1, 2, 1, 3])
        self.assertEqual(goes, [(0, 1, 1), (1, 2, 2), (1, 3, 1), (2, 1, 2)])
        told = [("worth", (0, 1, 2), 1), ("worth", (2, 1, 2), 1)]
        self.assertIsNone(refused(told, program, goes))
        # (2, 1) is left once, (1, 2) no more.
        self.assertEqual(refused([*told, ("row", (1, 2, 1), 1)], program, goes), ("BadPaper", 2))

    def test_the_first_half_of_row_0_is_done_once_more_than_come_to(self):
        # A row way takes it ahead of its goes, a worth way behind; neither takes it more often than row 0 is come to.
        program, goes = ((), (("test", 0, 1), STOP)), [(0, 0, 1), (0, 1, 1)]
        self.assertEqual(bound(program, 3, goes, [("row", (0, 0), 1)]), 3 + 2 + 1)
        self.assertEqual(refusal(bound, program, 3, goes, [("row", (0, 0), 2)]), ("BadPaper", 0))

    def test_the_first_one_whatever_is_wrong(self):
        self.assertEqual(refused([("row", LOOP, 4), ("row", (), 1)]), ("BadPaper", 0))
        self.assertEqual(refused([("row", LOOP, 3), ("row", (), 1), ("row", LOOP, 1)]), ("BadPaper", 1))
        self.assertEqual(refused([("row", LOOP, 3), ("row", LOOP, 1), ("row", (), 1)]), ("BadPaper", 1))

    def test_no_entries_for_a_stop_alone(self):
        for way in ((0, 0), (0,), ()):
            self.assertEqual(refused([("row", way, 1)], ONLY_STOP, []), ("BadPaper", 0))


class NoFewer(unittest.TestCase):
    def test_no_laying_takes_fewer(self):
        numbers, tried, met = Numbers(65), 0, 0
        while tried < 120:
            program = numbers.program(9)
            way, wide = numbers.way(program), 2 + numbers.below(7)
            if way is None or len(way) < 3:
                continue
            tried += 1
            goes = way_goes(way)
            most = max(
                bound(program, wide, goes, told)
                for told in ([], some_paper(numbers, program, goes, 10), paper(program, wide, goes))
            )
            for _ in range(20):
                places = tuple(numbers.below(wide) for _ in program[1])
                homes = tuple((numbers.below(wide),) for _ in program[0])
                self.assertLessEqual(most, beats(program, (wide, places, homes), goes))
            if refusal(best, program, wide, goes) is None:
                self.assertLessEqual(most, best(program, wide, goes)[0])
                met += best(program, wide, goes)[0] == most
        self.assertGreater(met, 60)


class Told(unittest.TestCase):
    def test_what_paper_tells_is_let_and_shows_no_less(self):
        numbers, tried, more = Numbers(75), 0, 0
        while tried < 150:
            program = numbers.program(20)
            way, wide = numbers.way(program), 2 + numbers.below(23)
            if way is None or len(way) < 5:
                continue
            tried += 1
            goes = way_goes(way)
            told = paper(program, wide, goes)
            self.assertGreaterEqual(bound(program, wide, goes, told), bound(program, wide, goes, []))
            self.assertEqual(bound(program, wide, goes, told), slow_bound(program, wide, goes, told))
            more += told != []
        self.assertGreater(more, 60)

    def test_a_paper_that_shows_the_fewest(self):
        self.assertEqual(shown(paper(COUNT_DOWN, 24, COUNT_DOWN_GOES), 24), 3 * 48 + 6)
        self.assertEqual(best(COUNT_DOWN, 24, COUNT_DOWN_GOES)[0], 3 * 48 + 6)

    def test_nothing_to_show(self):
        self.assertEqual(paper(ONLY_STOP, 2, []), [])
        self.assertEqual(paper(STRAIGHT, 24, [(0, 1, 1), (1, 2, 1), (2, 3, 1)]), [])

    def test_forty_rows(self):
        rows = [("test", (7 * row + 3) % 40, (row + 1) % 39) for row in range(39)]
        program = ((), (*rows, STOP))
        way = Numbers(3).way(program, 100000)
        goes = way_goes(way)
        self.assertGreater(len(goes), 40)
        told = paper(program, 24, goes)
        self.assertGreaterEqual(bound(program, 24, goes, told), bound(program, 24, goes, []))


class Refused(unittest.TestCase):
    def test_what_is_handed_in_first_is_refused_first(self):
        bad, goes, told = ((), (("say", 9),)), [(0, 0, 0)], [("row", (), 0)]
        for function, more in ((bound, (told,)), (paper, ())):
            self.assertEqual(refusal(function, bad, 1, goes, *more), ("BadProgram", 0, "next"))
            self.assertEqual(refusal(function, ONLY_STOP, 1, goes, *more), ("BadLaying", "wide", 0))
            self.assertEqual(refusal(function, ONLY_STOP, 25, [], *more), ("BadLaying", "wide", 0))
            self.assertEqual(refusal(function, ONLY_STOP, 24, goes, *more), ("BadGoes",))
        self.assertEqual(refusal(bound, ONLY_STOP, 2, [], told), ("BadPaper", 0))
        self.assertIsNone(refusal(bound, ONLY_STOP, 2, [], []))
        self.assertIsNone(refusal(paper, ONLY_STOP, 2, []))


class Given(unittest.TestCase):
    TOLD = [("row", LOOP, 1), ("worth", (4, 0), 2)]

    def test_kinds(self):
        self.assertIs(type(shown(self.TOLD)), int)
        told = paper(COUNT_DOWN, 10, COUNT_DOWN_GOES)
        self.assertIs(type(told), list)
        self.assertEqual({tuple(type(thing) for thing in entry) for entry in told}, {(str, tuple, int)})

    def test_a_changed_answer_changes_no_later_one(self):
        first = paper(COUNT_DOWN, 10, COUNT_DOWN_GOES)
        kept = list(first)
        first.pop()
        first.append("x")
        self.assertEqual(paper(COUNT_DOWN, 10, COUNT_DOWN_GOES), kept)

    def test_asked_again(self):
        self.assertEqual([shown(self.TOLD) for _ in range(3)], [54 + 4 + 14] * 3)

    def test_what_is_handed_in_stays(self):
        goes, told = COUNT_DOWN_GOES[::-1], list(self.TOLD)
        before = repr((COUNT_DOWN, goes, told))
        bound(COUNT_DOWN, 10, goes, told)
        paper(COUNT_DOWN, 10, goes)
        refusal(bound, COUNT_DOWN, 10, goes[1:], told)
        told.append(("row", LOOP, 9))
        refusal(bound, COUNT_DOWN, 10, goes, told)
        told.pop()
        self.assertEqual(repr((COUNT_DOWN, goes, told)), before)


if __name__ == "__main__":
    unittest.main()

"""What holds over the whole program: its interface, its refusals, and what is asked again (points 1, 2, 4, 5 and 8)."""

import copy
import inspect
import itertools
import unittest

from drumlay import best, drums, images, layings, loops, notes, papers, plain
from tests.samples import (
    COUNT_DOWN, COUNT_DOWN_GOES, COUNT_DOWN_LAYING, FORK, ONLY_STOP, STRAIGHT, Numbers, refusal, way_goes,
)

STOP = ("stop",)

# What each name of the interface is handed, in turn.
ARGUMENTS = {
    plain.run: ("program", "fuel"),
    layings.costs: ("program", "laying"),
    layings.beats: ("program", "laying", "goes"),
    drums.Drum: ("program", "laying"),
    drums.spun: ("program", "laying", "fuel"),
    best.best: ("program", "wide", "goes"),
    papers.bound: ("program", "wide", "goes", "told"),
    papers.paper: ("program", "wide", "goes"),
    loops.loops: ("program",),
    loops.loop_beats: ("program", "laying"),
    images.tracks: ("program", "laying"),
    images.image: ("program", "laying"),
    images.reeled: ("told", "fuel"),
    notes.written: ("program",),
    notes.read: ("text",),
}

# Rows 1 to 3, and the worths 0 and 1.
PROGRAM = ((2, 1), (("load", 0, 1), ("test", 3, 2), ("take", 1, 1), STOP))
GOES = way_goes([0, 1, 2, 1, 2, 1, 3])
LAYING = (5, (0, 4, 1, 2), ((3,), (0, 2)))
GOOD = {
    "program": PROGRAM, "laying": LAYING, "wide": 5, "goes": GOES, "told": [("row", (1, 2, 1), 1)], "fuel": 9,
    "text": "worths 2 1\nload 0 1\ntest 3 2\ntake 1 1\nstop",
}
BAD = {
    "program": [
        ((0,) * 9, PROGRAM[1]), ((2, 1000001), PROGRAM[1]), ((2, 1), ()), ((2, 1), (STOP, ("say",))),
        ((2, 1), (STOP, ("load", 2, 0))), ((2, 1), (STOP, STOP, ("say", 3))), None, True, 7, "stop", (),
    ],
    "laying": [
        (1, *LAYING[1:]), (25, *LAYING[1:]), (5, (0, 4, 1), LAYING[2]), (5, (0, 4, 5, 2), LAYING[2]),
        (5, LAYING[1], ((3,),)), (5, LAYING[1], ((3,), ())), (True, *LAYING[1:]), (5, LAYING[1], ((True,), (0,))),
    ],
    "wide": [1, 25, 0, -5, True, False],
    "goes": [GOES[1:], [*GOES, GOES[0]], [], [(0, 3, 1)], [(0, 1, 0)], [(0, 1, True)], [*GOES, (3, 0, 1)]],
    "told": [[("row", (1, 2, 1), 3)], [("worth", (1, 2, 1), 1)], [("row", (1, 1), 1)], [("row", (1, 2, 1), 0)]],
    "fuel": [-1, 5001, True, False],
    "text": ["", "worths", "worths 2 1\nstop\n", "worths 2 01\nstop", "worths 2 1\nsay 1"],
}
REFUSALS = {
    "program": [
        ("BadProgram", -1, "worths"), ("BadProgram", -1, "number"), ("BadProgram", -1, "rows"),
        ("BadProgram", 1, "shape"), ("BadProgram", 1, "worth"), ("BadProgram", 2, "next"),
        *[("BadProgram", -1, "worths")] * 5,
    ],
    "laying": [
        ("BadLaying", "wide", 0), ("BadLaying", "wide", 0), ("BadLaying", "places", -1), ("BadLaying", "places", 2),
        ("BadLaying", "homes", -1), ("BadLaying", "homes", 1), ("BadLaying", "wide", 0), ("BadLaying", "homes", 0),
    ],
    "wide": [("BadLaying", "wide", 0)] * 6,
    "goes": [("BadGoes",)] * 7,
    "told": [("BadPaper", 0)] * 4,
    "fuel": [("BadFuel",)] * 4,
    "text": [
        ("BadText", 0), ("BadProgram", -1, "rows"), ("BadText", 2), ("BadText", 0), ("BadProgram", 0, "next"),
    ],
}


def by(function, names, **other):
    """What a name of the interface refuses where these things are handed in, good ones in place of all others."""
    return refusal(function, *[other.get(name, GOOD[name]) for name in names])


def told_images():
    return images.image(PROGRAM, LAYING)


class Interface(unittest.TestCase):
    def test_names_and_arguments(self):
        for function, names in ARGUMENTS.items():
            self.assertEqual(tuple(inspect.signature(function).parameters), names, function)
            self.assertEqual(function.__module__.split(".")[0], "drumlay")

    def test_arguments_by_name(self):
        for function, names in ARGUMENTS.items():
            things = {name: GOOD[name] for name in names}
            if function is images.reeled:
                things["told"] = told_images()
            told, again = function(**things), function(*things.values())
            if function is not drums.Drum:
                self.assertEqual(told, again, function)

    def test_a_drum_s_methods(self):
        for name in ("turn", "beat", "says", "holds", "is_over"):
            self.assertEqual(tuple(inspect.signature(getattr(drums.Drum, name)).parameters), ("self",))


class RefusedByEachName(unittest.TestCase):
    def names(self, *wanted):
        """The names of the interface that are handed one of these, but for reeled's image, which none refuses."""
        for function, names in ARGUMENTS.items():
            if set(names) & set(wanted) and (function is not images.reeled or "fuel" in wanted):
                yield function, names

    def good(self, function, **other):
        told = told_images() if function is images.reeled else GOOD["told"]
        return by(function, ARGUMENTS[function], **{"told": told, **other})

    def test_what_is_good_is_refused_by_none(self):
        for function in ARGUMENTS:
            self.assertIsNone(self.good(function), function)

    def test_one_thing_wrong(self):
        for word, things in BAD.items():
            for thing, wanted in zip(things, REFUSALS[word], strict=True):
                for function, _ in self.names(word):
                    self.assertEqual(self.good(function, **{word: thing}), wanted, (function, thing))

    def test_the_first_of_several_wrong_things(self):
        for function, names in ARGUMENTS.items():
            words = [word for word in names if word != "told" or function is not images.reeled]
            for count in range(2, len(words) + 1):
                for wrong in itertools.combinations(words, count):
                    for at in range(4):
                        things = {word: BAD[word][at % len(BAD[word])] for word in wrong}
                        wanted = REFUSALS[wrong[0]][at % len(BAD[wrong[0]])]
                        self.assertEqual(self.good(function, **things), wanted, (function, things))

    def test_what_is_good_behind_what_is_refused(self):
        for word, things in BAD.items():
            for function, names in self.names(word):
                if function is drums.Drum:
                    continue
                handed = [GOOD[name] for name in names]
                if function is images.reeled:
                    handed[0] = told_images()
                wanted = function(*handed)
                for thing in things:
                    self.assertIsNotNone(self.good(function, **{word: thing}))
                    self.assertEqual(function(*handed), wanted, (function, thing))

    def test_a_drum_behind_one_that_is_refused(self):
        wanted = drums.spun(PROGRAM, LAYING, 9)
        for word in ("program", "laying"):
            for thing in BAD[word]:
                drum = drums.Drum(PROGRAM, LAYING)
                self.assertIsNotNone(by(drums.Drum, ("program", "laying"), **{word: thing}))
                while not drum.is_over():
                    drum.turn()
                self.assertEqual((drum.says(), STOP, drum.beat()), wanted)

    def test_too_many_behind_all(self):
        # More than 5000 ways to lay the core on 24 places, and more than a hundred loops.
        rows = [("test", row, row + 1) for row in range(6)]
        rows += [("test", row + 1, row + 2) for row in range(6, 18)] + [("say", 19), ("test", 6, 20), STOP]
        program = ((), tuple(rows))
        goes = way_goes([row for row in range(6) for _ in range(2)] + [6, *range(7, 21)])
        laying = (24, (3,) * 21, ())
        self.assertEqual(refusal(best.best, program, 24, goes), ("TooMany",))
        self.assertEqual(refusal(loops.loops, program), ("TooMany",))
        self.assertEqual(refusal(loops.loop_beats, program, laying), ("TooMany",))
        for other in (((), (*rows, ("say", 22))), ((), (*rows, ("say",)))):
            why = "next" if len(other[1][21]) == 2 else "shape"
            for wide, gone in ((24, goes), (25, goes), (24, goes[:-1])):
                self.assertEqual(refusal(best.best, other, wide, gone), ("BadProgram", 21, why))
            self.assertEqual(refusal(loops.loops, other), ("BadProgram", 21, why))
            self.assertEqual(refusal(loops.loop_beats, other, laying), ("BadProgram", 21, why))
            self.assertEqual(refusal(loops.loop_beats, other, (1, (), ())), ("BadProgram", 21, why))
        self.assertEqual(refusal(best.best, program, 25, goes), ("BadLaying", "wide", 0))
        self.assertEqual(refusal(best.best, program, 25, goes[:-1]), ("BadLaying", "wide", 0))
        self.assertEqual(refusal(best.best, program, 24, goes[:-1]), ("BadGoes",))
        self.assertEqual(refusal(loops.loop_beats, program, (24, (3,) * 20 + (24,), ())), ("BadLaying", "places", 20))
        # All others take it.
        for function, more in (
            (plain.run, (5000,)), (layings.costs, (laying,)), (layings.beats, (laying, goes)), (drums.Drum, (laying,)),
            (papers.bound, (24, goes, [])), (papers.paper, (24, goes)), (images.image, (laying,)), (notes.written, ()),
        ):
            self.assertIsNone(refusal(function, program, *more), function)


def wrong_program(faults):
    """A program with these faults."""
    worths, rows = [3, -3], [("say", 1), ("load", 0, 2), ("test", 3, 4), ("add", 1, 4), STOP]
    for fault, change in (
        ("shape", ("test", 1, None)), ("worth", ("take", 2, 0)), ("next", ("load", 1, 41)),
    ):
        for at in range(5):
            if (at, fault) in faults:
                rows[at] = change
    if (-1, "number") in faults:
        worths[1] = -1000001
    if (-1, "worths") in faults:
        worths += [0] * 7
    if (-1, "rows") in faults:
        rows += [STOP] * 36
    return (tuple(worths), tuple(rows))


def wrong_laying(faults):
    """A laying of wrong_program's rows with these faults."""
    wide, places, homes = 6, [0, 5, 2, 2, 1], [(0, 5), (1, 2, 3)]
    for name, what, change in (("places", places, 6), ("homes", homes, (4, 4))):
        for at in range(len(what)):
            if (name, at) in faults:
                what[at] = change
        if (name, -1) in faults:
            what.append(what[0])
    return (25 if ("wide", 0) in faults else wide, tuple(places), tuple(homes))


class Together(unittest.TestCase):
    # In the order in which they are told.
    PROGRAMS = [
        (-1, "worths"), (-1, "number"), (-1, "rows"), (0, "shape"), (1, "worth"), (2, "next"), (3, "shape"),
        (4, "next"),
    ]
    LAYINGS = [
        ("wide", 0), ("places", -1), ("places", 0), ("places", 2), ("places", 4), ("homes", -1), ("homes", 0),
        ("homes", 1),
    ]

    def test_faults_of_a_program(self):
        self.assertIsNone(refusal(notes.written, wrong_program([])))
        for count in (1, 2, 3):
            for faults in itertools.combinations(self.PROGRAMS, count):
                wanted = ("BadProgram", *faults[0])
                for function, names in ARGUMENTS.items():
                    if names[0] == "program":
                        self.assertEqual(by(function, names, program=wrong_program(faults)), wanted, (function, faults))

    def test_faults_of_a_laying(self):
        program = wrong_program([])
        self.assertIsNone(refusal(layings.costs, program, wrong_laying([])))
        for count in (1, 2, 3):
            for faults in itertools.combinations(self.LAYINGS, count):
                wanted = ("BadLaying", *faults[0])
                for function, names in ARGUMENTS.items():
                    if "laying" in names:
                        told = by(function, names, program=program, laying=wrong_laying(faults))
                        self.assertEqual(told, wanted, (function, faults))


class Bounds(unittest.TestCase):
    def each(self, word, thing, wanted, **other):
        """Each name that is handed such a thing refuses it so, and takes it if nothing is wanted."""
        for function, names in ARGUMENTS.items():
            if word in names and function is not images.reeled:
                self.assertEqual(by(function, names, **{"told": [], **other, word: thing}), wanted, (function, thing))

    def test_programs(self):
        for worths, rows, wanted in (
            ((1000000, -1000000), 1, None), ((1000001,), 1, "number"), ((-1000001,), 1, "number"),
            ((0,) * 8, 1, None), ((0,) * 9, 1, "worths"), ((), 40, None), ((), 41, "rows"), ((), 0, "rows"),
        ):
            refused = None if wanted is None else ("BadProgram", -1, wanted)
            laying = (2, (1,) * rows, ((1,),) * len(worths))
            self.each("program", (worths, (STOP,) * rows), refused, laying=laying, goes=[])

    def test_rows(self):
        worths = (0,) * 8
        for row, wanted in (
            (("load", 7, 39), None), (("load", 8, 39), "worth"), (("load", 0, 40), "next"), (("load", -1, 40), "worth"),
            (("store", 0, -1), "next"), (("test", 39, 40), "next"), (("test", -1, 39), "next"),
            (("test", 39, 39), None), (("say", 39), None), (("say", 40), "next"), (("say", True), "shape"),
            (("add", False, 39), "shape"),
        ):
            program = (worths, (STOP,) * 38 + (row, STOP))
            laying = (24, (23,) * 40, ((0, 12, 23),) * 8)
            self.each("program", program, wanted and ("BadProgram", 38, wanted), laying=laying, goes=[])

    def test_layings(self):
        program = ((0,), (STOP, STOP))
        for laying, wanted in (
            ((2, (0, 1), ((0, 1),)), None), ((24, (23, 0), ((21, 22, 23),)), None),
            ((1, (0, 0), ((0,),)), ("wide", 0)), ((25, (0, 0), ((0,),)), ("wide", 0)),
            ((2, (0, 2), ((0,),)), ("places", 1)), ((2, (-1, 0), ((0,),)), ("places", 0)),
            ((24, (24, 0), ((0,),)), ("places", 0)),
            ((2, (0, 0), ((2,),)), ("homes", 0)), ((2, (0, 0), ((-1,),)), ("homes", 0)),
            ((24, (0, 0), ((0, 1, 2, 3),)), ("homes", 0)), ((24, (0, 0), ((),)), ("homes", 0)),
            ((24, (0, 0), ((22, 24),)), ("homes", 0)), ((24, (0, 0), ((3, 3),)), ("homes", 0)),
            ((24, (0, 0), ((4, 3),)), ("homes", 0)), ((24, (0,), ((3,),)), ("places", -1)),
            ((24, (0, 0, 0), ((3,),)), ("places", -1)), ((24, (0, 0), ()), ("homes", -1)),
            ((24, (0, 0), ((3,), (3,))), ("homes", -1)),
        ):
            self.each("laying", laying, wanted and ("BadLaying", *wanted), program=program, goes=[])

    def test_wide_and_fuel(self):
        for wide in (2, 3, 23, 24):
            self.each("wide", wide, None, program=STRAIGHT, goes=way_goes([0, 1, 2, 3]))
        for wide in (1, 25, -2, 10**30):
            self.each("wide", wide, ("BadLaying", "wide", 0))
        for fuel in (0, 1, 4999, 5000):
            self.each("fuel", fuel, None)
            self.assertIsNone(refusal(images.reeled, told_images(), fuel))
        for fuel in (-1, 5001, -(10**30), 10**30, True, False):
            self.each("fuel", fuel, ("BadFuel",))
            self.assertEqual(refusal(images.reeled, told_images(), fuel), ("BadFuel",))


class OtherThings(unittest.TestCase):
    """Words, truths, Nones, tuples and numbers where another thing is asked."""

    def refused(self, program, *wanted):
        for function, names in ARGUMENTS.items():
            if names[0] == "program":
                self.assertEqual(by(function, names, program=program), ("BadProgram", *wanted), (function, program))

    def test_in_place_of_a_program_and_its_two_parts(self):
        for thing in (None, True, False, 0, 2, "", "ab", "stop", ()):
            self.refused(thing, -1, "worths")
            self.refused(((), thing), -1, "rows")
            self.refused(((), (STOP,), thing), -1, "rows")
            if thing != ():
                self.refused((thing, (STOP,)), -1, "worths")

    def test_in_place_of_a_worth(self):
        for thing in (None, True, False, "", "0", (), (0,)):
            self.refused(((thing,), (STOP,)), -1, "number")
            self.refused(((0, 0, thing), (STOP,)), -1, "number")

    def test_in_place_of_a_row_and_its_word(self):
        for thing in (None, True, False, 0, 1, "", "say", "stop", (), (0,), ("",), (("stop",),)):
            self.refused(((), (STOP, thing)), 1, "shape")
            if thing not in ("say", "stop"):
                self.refused(((), (STOP, (thing,))), 1, "shape")
                self.refused(((0,), (STOP, (thing, 0))), 1, "shape")
                self.refused(((0,), (STOP, (thing, 0, 0))), 1, "shape")

    def test_in_place_of_a_number_of_a_row(self):
        for thing in (None, True, False, "", "0", "stop", (), (0,)):
            for word in ("load", "add", "take", "store", "test"):
                self.refused(((0, 0), (STOP, (word, thing, 1))), 1, "shape")
                self.refused(((0, 0), (STOP, (word, 1, thing))), 1, "shape")
                self.refused(((0, 0), (STOP, (word, 9, thing))), 1, "shape")
            self.refused(((0, 0), (STOP, ("say", thing))), 1, "shape")
            self.refused(((0, 0), (STOP, ("stop", thing))), 1, "shape")

    def test_in_place_of_each_number_of_a_laying(self):
        for thing in (None, True, False, "", "0", (), (0,), -1, 10**20):
            for laying, wanted in (
                (thing, ("wide", 0)), ((thing, *LAYING[1:]), ("wide", 0)), ((5, thing, LAYING[2]), ("places", -1)),
                ((5, (thing, 0, 0, 0), LAYING[2]), ("places", 0)), ((5, (0, 0, 0, thing), LAYING[2]), ("places", 3)),
                ((5, LAYING[1], thing), ("homes", -1)), ((5, LAYING[1], ((3,), (thing,))), ("homes", 1)),
                ((5, LAYING[1], ((0, thing), (3,))), ("homes", 0)),
            ):
                if laying == (0,):
                    wanted = ("wide", 0)
                for function, names in ARGUMENTS.items():
                    if "laying" in names:
                        self.assertEqual(by(function, names, laying=laying), ("BadLaying", *wanted), (function, laying))

    def test_in_place_of_homes(self):
        for thing in (None, True, "0", 0, ()):
            for function, names in ARGUMENTS.items():
                if "laying" in names:
                    told = by(function, names, laying=(5, LAYING[1], ((3,), thing)))
                    self.assertEqual(told, ("BadLaying", "homes", 1), (function, thing))

    def test_in_place_of_wide_fuel_and_a_go(self):
        for thing in (None, "", "5", (), (5,)):
            for function, names in ARGUMENTS.items():
                if "wide" in names:
                    self.assertEqual(by(function, names, wide=thing), ("BadLaying", "wide", 0))
                if "fuel" in names and function is not images.reeled:
                    self.assertEqual(by(function, names, fuel=thing), ("BadFuel",))
                if "goes" in names:
                    for goes in ([thing], [*GOES, thing], [(0, 1, thing)], [(thing, 1, 1)]):
                        self.assertEqual(by(function, names, goes=goes), ("BadGoes",))


def all_told(program, laying, wide, goes, fuel):
    """All that the interface tells of a program."""
    drum = drums.Drum(program, laying)
    turns = []
    while not drum.is_over() and len(turns) < 30:
        turns.append([drum.turn(), drum.beat(), drum.says(), drum.holds()])
    told = images.image(program, laying)
    paper = papers.paper(program, wide, goes)
    return [
        plain.run(program, fuel), layings.costs(program, laying), layings.beats(program, laying, goes), turns,
        drums.spun(program, laying, fuel), best.best(program, wide, goes), paper,
        papers.bound(program, wide, goes, paper), loops.loops(program), loops.loop_beats(program, laying),
        images.tracks(program, laying), told, images.reeled(told, fuel), notes.written(program),
        notes.read(notes.written(program)),
    ]


def spoil(thing):
    """Changes all lists, those in tuples and lists too."""
    if isinstance(thing, (list, tuple)):
        for part in thing:
            spoil(part)
    if isinstance(thing, list):
        thing.append("spoiled")
        thing[0] = "spoiled"


class AskedAgain(unittest.TestCase):
    ASKED = [
        (COUNT_DOWN, COUNT_DOWN_LAYING, 7, COUNT_DOWN_GOES, 5000),
        (STRAIGHT, (6, (1, 0, 0, 0), ((4,), (1, 3))), 24, way_goes([0, 1, 2, 3]), 4),
        (FORK, (5, (0, 1, 2, 3, 4), ((1,), (1, 2, 4))), 2, way_goes([0, 1, 2, 4]), 2),
        (ONLY_STOP, (24, (23,), ()), 3, [], 0),
        (PROGRAM, LAYING, 5, GOES, 9),
    ]

    def test_of_one_of_another_and_of_the_first_again(self):
        for first, other in itertools.permutations(self.ASKED, 2):
            told = all_told(*first)
            kept = copy.deepcopy(told)
            spoil(told)
            spoil(all_told(*other))
            again = all_told(*first)
            self.assertEqual(again, kept)
            self.assertEqual(repr(again), repr(kept))

    def test_with_refusals_between(self):
        for asked in self.ASKED:
            kept = copy.deepcopy(all_told(*asked))
            for word, things in BAD.items():
                for thing in things:
                    for function, names in ARGUMENTS.items():
                        if word in names and function is not images.reeled:
                            self.assertIsNotNone(by(function, names, **{word: thing}))
            self.assertEqual(all_told(*asked), kept)

    def test_what_is_handed_in_stays(self):
        for asked in self.ASKED:
            before = repr(asked)
            all_told(*asked)
            self.assertEqual(repr(asked), before)

    def test_many_of_one_another(self):
        numbers, asked = Numbers(95), []
        while len(asked) < 12:
            program = numbers.program(6)
            way = numbers.way(program, 60)
            if way is not None and refusal(best.best, program, 4, way_goes(way)) is None:
                asked.append((program, numbers.laying(program), 4, way_goes(way), 40))
        kept = [repr(all_told(*one)) for one in asked]
        self.assertEqual([repr(all_told(*one)) for one in asked[::-1]], kept[::-1])
        # Alike, but not the same things: nothing may hang on which of them it is.
        self.assertEqual([repr(all_told(*copy.deepcopy(one))) for one in asked], kept)


class OnePart(unittest.TestCase):
    def test_the_parts_tell_the_same_of_one_run(self):
        numbers, tried = Numbers(105), 0
        while tried < 60:
            program = notes.read(notes.written(numbers.program()))
            said, end, done, goes = plain.run(program, 300)
            laying = numbers.laying(program)
            if end != STOP:
                continue
            tried += 1
            wanted = (said, end, layings.beats(program, laying, goes))
            self.assertEqual(drums.spun(program, laying, sum(done)), wanted)
            self.assertEqual(images.reeled(images.image(program, laying), sum(done)), wanted)
            if refusal(best.best, program, laying[0], goes) is None:
                fewest, found = best.best(program, laying[0], goes)
                paper = papers.paper(program, laying[0], goes)
                self.assertLessEqual(papers.bound(program, laying[0], goes, paper), fewest)
                self.assertEqual(images.reeled(images.image(program, found), sum(done)), (said, end, fewest))


if __name__ == "__main__":
    unittest.main()

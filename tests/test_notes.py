"""Programs as texts (points 1, 2 and 14)."""

import unittest

from drumlay.notes import read, written
from tests.samples import COUNT_DOWN, ENDLESS, FORK, ONLY_STOP, STRAIGHT, Numbers, refusal

STOP = ("stop",)
WORDS = {"load": 2, "add": 2, "take": 2, "store": 2, "say": 1, "test": 2, "stop": 0}

TEXT = "worths 3 1\nload 0 1\ntest 5 2\nsay 3\ntake 1 4\nstore 0 0\nstop"


def told(*lines):
    return refusal(read, "\n".join(lines))


def numbers_of(word):
    """What reading a worth, and a row's number, that is written so refuses."""
    return told("worths " + word, "stop"), told("worths", "say 1", "say " + word, "stop")


class Written(unittest.TestCase):
    def test_each_word(self):
        rows = (("load", 0, 1), ("add", 1, 2), ("take", 0, 3), ("store", 1, 4), ("say", 5), ("test", 6, 0), STOP)
        self.assertEqual(
            written(((4, 5), rows)),
            "worths 4 5\nload 0 1\nadd 1 2\ntake 0 3\nstore 1 4\nsay 5\ntest 6 0\nstop",
        )

    def test_no_worths(self):
        self.assertEqual(written(ONLY_STOP), "worths\nstop")
        self.assertEqual(written(ENDLESS), "worths\nsay 0")

    def test_worths(self):
        self.assertEqual(
            written(((0, -1, 10, -10, 1000000, -1000000, 999999, -7), (STOP,))),
            "worths 0 -1 10 -10 1000000 -1000000 999999 -7\nstop",
        )

    def test_numbers_of_two_figures(self):
        rows = tuple(("say", row + 1) for row in range(39)) + (STOP,)
        lines = ["worths", *[f"say {row + 1}" for row in range(39)], "stop"]
        self.assertEqual(written(((), rows)).split("\n"), lines)

    def test_a_loop(self):
        self.assertEqual(written(COUNT_DOWN), TEXT)

    def test_what_is_no_program(self):
        self.assertEqual(refusal(written, ((), ())), ("BadProgram", -1, "rows"))
        self.assertEqual(refusal(written, ((True,), (STOP,))), ("BadProgram", -1, "number"))
        self.assertEqual(refusal(written, ((), (STOP, ("jump", 1)))), ("BadProgram", 1, "shape"))
        self.assertEqual(refusal(written, "worths\nstop"), ("BadProgram", -1, "worths"))


class Read(unittest.TestCase):
    def test_a_loop(self):
        self.assertEqual(read(TEXT), COUNT_DOWN)

    def test_what_is_written_is_read_to_the_same(self):
        samples = [COUNT_DOWN, STRAIGHT, FORK, ENDLESS, ONLY_STOP, ((1000000, -1000000) * 4, (STOP,) * 40)]
        numbers = Numbers(45)
        for program in samples + [numbers.program(40) for _ in range(100)]:
            self.assertEqual(repr(read(written(program))), repr(program))
            self.assertEqual(written(read(written(program))), written(program))

    def test_numbers_of_one_to_seven_figures(self):
        for word in ("0", "7", "10", "99", "100", "1234", "99999", "100000", "999999", "1000000"):
            self.assertEqual(read(f"worths {word}\nstop"), ((int(word),), (STOP,)))
            if word != "0":
                self.assertEqual(read(f"worths -{word}\nstop"), ((-int(word),), (STOP,)))

    def test_tuples_texts_and_numbers(self):
        program = read(TEXT)
        self.assertEqual([type(program), type(program[0]), type(program[1])], [tuple] * 3)
        self.assertEqual({type(row) for row in program[1]}, {tuple})
        self.assertEqual({type(thing) for row in program[1] for thing in row}, {str, int})
        self.assertEqual({type(worth) for worth in program[0]}, {int})


class Lines(unittest.TestCase):
    def test_an_empty_text(self):
        self.assertEqual(refusal(read, ""), ("BadText", 0))
        self.assertEqual(refusal(read, "\n"), ("BadText", 0))
        self.assertEqual(refusal(read, " "), ("BadText", 0))

    def test_an_empty_line(self):
        lines = TEXT.split("\n")
        for at in range(len(lines) + 1):
            self.assertEqual(told(*lines[:at], "", *lines[at:]), ("BadText", at))
            self.assertEqual(told(*lines[:at], "", "", *lines[at:]), ("BadText", at))
        self.assertEqual(refusal(read, TEXT + "\n"), ("BadText", 7))

    def test_a_line_left_out(self):
        self.assertEqual(told("load 0 1", "stop"), ("BadText", 0))
        self.assertEqual(refusal(read, TEXT.split("\n", 1)[1]), ("BadText", 0))
        # Its rows are fewer, and row 5 is none any more.
        lines = ("worths 3 1", "load 0 1", "test 5 2", "say 3", "take 1 4", "stop")
        self.assertEqual(told(*lines), ("BadProgram", 1, "next"))

    def test_a_line_told_twice(self):
        self.assertEqual(told("worths 1", "worths 1", "stop"), ("BadText", 1))
        self.assertEqual(told("worths", "stop", "worths"), ("BadText", 2))
        self.assertEqual(read("worths\nstop\nstop"), ((), (STOP, STOP)))

    def test_a_line_put_in(self):
        lines = TEXT.split("\n")
        for more in ("load", "rows", "# 1", "worths 3 1", "1", "end", "load 0 1 2"):
            for at in range(1, len(lines) + 1):
                self.assertEqual(told(*lines[:at], more, *lines[at:]), ("BadText", at), more)
            self.assertEqual(told(more + " ", *lines), ("BadText", 0))

    def test_other_signs_between_lines(self):
        for sign in (" ", "  ", " \n", "\n ", "\n\n", ";", "|"):
            self.assertEqual(refusal(read, "worths 1" + sign + "stop")[0], "BadText", sign)

    def test_the_word_alone_for_no_worths(self):
        self.assertEqual(read("worths\nstop"), ((), (STOP,)))
        self.assertEqual(told("worths ", "stop"), ("BadText", 0))


class Words(unittest.TestCase):
    def test_blanks(self):
        lines = TEXT.split("\n")
        for at, line in enumerate(lines):
            others = [line + " ", " " + line, line + "  ", " " + line + " "]
            others += [line[:sign] + " " + line[sign:] for sign in range(len(line)) if line[sign] == " "]
            for other in others:
                self.assertEqual(told(*lines[:at], other, *lines[at + 1:]), ("BadText", at), other)

    def test_a_blank_too_few(self):
        for line in ("load0 1", "test01", "say0", "store00"):
            self.assertEqual(told("worths 1", "stop", line), ("BadText", 2), line)
        self.assertEqual(told("worths1", "stop"), ("BadText", 0))

    def test_another_count_of_numbers(self):
        for word, count in WORDS.items():
            for many in range(5):
                line = " ".join([word] + ["0"] * many)
                self.assertEqual(told("worths 1", line), None if many == count else ("BadText", 1), line)

    def test_another_word(self):
        for word in ("", "Load", "LOAD", "loads", "loa", "row", "worths", "jump", "0", "-", "load,", "'load'", "none"):
            self.assertEqual(told("worths 1", "stop", word + " 0 0"), ("BadText", 2), word)
        for word in ("", "worth", "Worths", "WORTHS", "rows", "load", "worths,", "worths:", "1", "-"):
            self.assertEqual(told(word, "stop"), ("BadText", 0), word)
            self.assertEqual(told(word + " 1", "stop"), ("BadText", 0), word)

    def test_a_word_in_place_of_a_number(self):
        for word in ("a", "stop", "load", "True", "None", "x1", "1x", "0x1", "1e3", "1.0", "1_0", "()", "(1)", "'1'"):
            self.assertEqual(numbers_of(word), (("BadText", 0), ("BadText", 2)), word)


class WrittenNumbers(unittest.TestCase):
    def test_a_needless_0(self):
        for word in ("00", "01", "-01", "007", "-00", "000000", "0000001", "-0000001"):
            self.assertEqual(numbers_of(word), (("BadText", 0), ("BadText", 2)), word)

    def test_signs(self):
        for word in (
            "-0", "+1", "+0", "-", "+", "--1", "-+1", "1-", "1-2", "-1-2", "10-", "1+2", "- 1", "~1", "0-0", "-0-1",
        ):
            self.assertEqual(numbers_of(word), (("BadText", 0), ("BadText", 2)), word)

    def test_eight_figures(self):
        for word in ("10000000", "-10000000", "12345678", "9" * 8, "-" + "9" * 8, "1" * 30, "00000001"):
            self.assertEqual(numbers_of(word), (("BadText", 0), ("BadText", 2)), word)

    def test_seven_figures_that_are_too_much(self):
        for word in ("1000001", "9999999", "-1000001", "-9999999"):
            self.assertEqual(numbers_of(word), (("BadProgram", -1, "number"), ("BadProgram", 1, "next")), word)

    def test_at_each_place_of_each_line(self):
        lines = TEXT.split("\n")
        for at, line in enumerate(lines):
            words = line.split(" ")
            for place in range(1, len(words)):
                for word in ("-0", "00", "10000000", "x", ""):
                    other = " ".join([*words[:place], word, *words[place + 1:]])
                    self.assertEqual(told(*lines[:at], other, *lines[at + 1:]), ("BadText", at), other)


class WhatIsToldFirst(unittest.TestCase):
    def test_the_first_bad_line(self):
        self.assertEqual(told("worths 1", "stop", "jump", "stop", "say"), ("BadText", 2))
        self.assertEqual(told("worth", "jump"), ("BadText", 0))
        self.assertEqual(told("worths 1", "say x", "jump", ""), ("BadText", 1))

    def test_ahead_of_what_is_no_program(self):
        self.assertEqual(told("worths" + " 0" * 9, "say 7", "load 1 1", "jump"), ("BadText", 3))
        self.assertEqual(told("worths 9999999", "say 7", ""), ("BadText", 2))
        self.assertEqual(told("worths", *["stop"] * 41, "stop 1"), ("BadText", 42))
        self.assertEqual(told("worths", "say -1", "say -0"), ("BadText", 2))

    def test_lines_that_are_right_and_no_program(self):
        self.assertEqual(told("worths" + " 0" * 9, "stop"), ("BadProgram", -1, "worths"))
        self.assertEqual(told("worths" + " 9999999" * 9, "stop"), ("BadProgram", -1, "worths"))
        self.assertEqual(told("worths 1000001"), ("BadProgram", -1, "number"))
        self.assertEqual(told("worths -1000001", "say 7"), ("BadProgram", -1, "number"))
        self.assertEqual(told("worths"), ("BadProgram", -1, "rows"))
        self.assertEqual(told("worths 1 2"), ("BadProgram", -1, "rows"))
        self.assertEqual(told("worths", *["say 99"] * 41), ("BadProgram", -1, "rows"))
        self.assertEqual(told("worths", *["stop"] * 300), ("BadProgram", -1, "rows"))
        self.assertEqual(told("worths", "stop", "load 0 9"), ("BadProgram", 1, "worth"))
        self.assertEqual(told("worths 5", "stop", "load -1 0"), ("BadProgram", 1, "worth"))
        self.assertEqual(told("worths 5", "say 1", "test 1 2", "say 9"), ("BadProgram", 2, "next"))
        self.assertEqual(told("worths 5", "say -1"), ("BadProgram", 0, "next"))

    def test_rows_and_lines_are_counted_apart(self):
        self.assertEqual(told("worths", "say 1", "say 2"), ("BadProgram", 1, "next"))
        self.assertEqual(told("worths", "say 1", "say a"), ("BadText", 2))


class Given(unittest.TestCase):
    def test_kinds(self):
        self.assertIs(type(written(COUNT_DOWN)), str)
        self.assertIs(type(read(TEXT)), tuple)

    def test_asked_again(self):
        self.assertEqual([written(COUNT_DOWN) for _ in range(3)], [TEXT] * 3)
        self.assertEqual(told("worths", "jump"), ("BadText", 1))
        self.assertEqual([read(TEXT) for _ in range(3)], [COUNT_DOWN] * 3)

    def test_what_is_handed_in_stays(self):
        before = repr(COUNT_DOWN)
        written(COUNT_DOWN)
        self.assertEqual(repr(COUNT_DOWN), before)


if __name__ == "__main__":
    unittest.main()

"""Programs as texts."""

from drumlay.errors import BadText
from drumlay.programs import PARTS, check_program

FIGURES = "0123456789"
MOST_FIGURES = 7


def written(program):
    """The text of a program."""
    check_program(program)
    worths, rows = program
    lines = [("worths", *worths), *rows]
    return "\n".join([" ".join([str(thing) for thing in line]) for line in lines])


def read(text):
    """The program of a text."""
    lines = [line.split(" ") for line in text.split("\n")]
    for number, words in enumerate(lines):
        if not is_line(words, number):
            raise BadText(number)
    worths = tuple([int(word) for word in lines[0][1:]])
    program = (worths, tuple([row_of(words) for words in lines[1:]]))
    check_program(program)
    return program


def row_of(words):
    """The row that these words write."""
    numbers = [int(word) for word in words[1:]]
    return (words[0], *numbers)


def is_line(words, number):
    """Whether these can be the words of the line with this number."""
    word, *numbers = words
    if not all([is_written_number(figures) for figures in numbers]):
        return False
    if number == 0:
        return word == "worths"
    return word in PARTS and len(numbers) == len(PARTS[word])


def is_written_number(word):
    """Whether this is a number as texts have it."""
    figures = word[1:] if word.startswith("-") else word
    if not 1 <= len(figures) <= MOST_FIGURES or not all([figure in FIGURES for figure in figures]):
        return False
    # A 0 ahead is needless but for 0 itself, which is not below 0.
    return word == "0" or figures[0] != "0"

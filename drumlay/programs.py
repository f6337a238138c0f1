"""What a program is, and what its rows use and go to."""

from drumlay.errors import BadProgram

MOST_WORTHS = 8
MOST_ROWS = 40
MOST_NUMBER = 1000000

# What stands behind the word of a row, in turn.
PARTS = {
    "load": ("worth", "next"),
    "add": ("worth", "next"),
    "take": ("worth", "next"),
    "store": ("worth", "next"),
    "say": ("next",),
    "test": ("next", "next"),
    "stop": (),
}


def is_number(thing):
    """Whether this is a whole number; True and False are none."""
    return isinstance(thing, int) and not isinstance(thing, bool)


def is_between(thing, low, high):
    """Whether this is a number from low to high."""
    return is_number(thing) and low <= thing <= high


def part(whole, at):
    """What stands at that place of a tuple; None where there is no such tuple or place."""
    if isinstance(whole, tuple) and at < len(whole):
        return whole[at]
    return None


def uses_worth(row):
    """Whether the row is one that uses a worth."""
    return "worth" in PARTS[row[0]]


def nexts(row):
    """The rows to which a row may go, as they stand in it."""
    if uses_worth(row):
        return row[2:]
    return row[1:]


def rows_ahead(row):
    """The rows to which a row may go, rising, each once."""
    return sorted(set(nexts(row)))


def goes_that_may_be(program):
    """The pairs of a row and a next one, rising, each once."""
    pairs = []
    for number, row in enumerate(program[1]):
        pairs.extend([(number, to) for to in rows_ahead(row)])
    return pairs


def check_program(program):
    """Refuses what is no program."""
    check_worths(part(program, 0))
    rows = part(program, 1)
    if not isinstance(rows, tuple) or len(program) != 2 or not 1 <= len(rows) <= MOST_ROWS:
        raise BadProgram(-1, "rows")
    for number, row in enumerate(rows):
        check_row(row, number, {"worth": len(program[0]), "next": len(rows)})


def check_worths(worths):
    """Refuses what can't be the worths of a program."""
    if not isinstance(worths, tuple) or len(worths) > MOST_WORTHS:
        raise BadProgram(-1, "worths")
    for worth in worths:
        if not is_between(worth, -MOST_NUMBER, MOST_NUMBER):
            raise BadProgram(-1, "number")


def check_row(row, number, counts):
    """Refuses what is no row where there are so many worths and rows."""
    if not has_shape(row):
        raise BadProgram(number, "shape")
    for name, thing in zip(PARTS[row[0]], row[1:]):
        if not 0 <= thing < counts[name]:
            raise BadProgram(number, name)


def has_shape(row):
    """Whether this is a tuple of a word and as many numbers as go with it."""
    word = part(row, 0)
    if not isinstance(word, str) or word not in PARTS:
        return False
    return len(row) == len(PARTS[word]) + 1 and all([is_number(thing) for thing in row[1:]])

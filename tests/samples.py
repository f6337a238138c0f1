"""Programs and other things that several tests use."""

from drumlay.errors import DrumError

# Counts worth 0 down by worth 1, and says what is left each time.
COUNT_DOWN = (
    (3, 1),
    (
        ("load", 0, 1),
        ("test", 5, 2),
        ("say", 3),
        ("take", 1, 4),
        ("store", 0, 0),
        ("stop",),
    ),
)
COUNT_DOWN_GOES = [(0, 1, 4), (1, 2, 3), (1, 5, 1), (2, 3, 3), (3, 4, 3), (4, 0, 3)]
COUNT_DOWN_LAYING = (6, (2, 4, 0, 4, 5, 1), ((1, 3), (0, 2, 5)))

STRAIGHT = ((7, -5), (("load", 0, 1), ("add", 1, 2), ("say", 3), ("stop",)))

FORK = ((0, 4), (("load", 0, 1), ("test", 2, 3), ("say", 4), ("stop",), ("stop",)))

ENDLESS = ((), (("say", 0),))

ONLY_STOP = ((), (("stop",),))

WORK = {"load": 1, "store": 1, "test": 1, "add": 2, "take": 2, "say": 3, "stop": 0}


def refusal(function, *handed):
    """What is refused: the name of its class and its fields; None if nothing is."""
    try:
        function(*handed)
    except DrumError as error:
        fields = [getattr(error, name) for name in ("row", "why", "at", "line") if hasattr(error, name)]
        return (error.__class__.__name__, *fields)
    return None


def slow_now(row, laying, now, place):
    """The beat of the reading and the one behind the row's work, one beat after the other."""
    wide, _, homes = laying
    while now % wide != place:
        now += 1
    read = now
    now += 1
    if row[0] in ("load", "add", "take", "store"):
        left = set(homes[row[1]])
        while left:
            if now % wide in left:
                left = left - {now % wide} if row[0] == "store" else set()
            now += 1
    return read, now + WORK[row[0]]


def rows_behind(row):
    """The rows to which a row may go, as they stand in it."""
    return row[2:] if row[0] in ("load", "add", "take", "store") else row[1:]


def way_goes(way):
    """The goes of a way of rows, rising."""
    pairs = list(zip(way, way[1:]))
    return [(*pair, pairs.count(pair)) for pair in sorted(set(pairs))]


class Numbers:
    """Numbers that look thrown, the same ones each time."""

    def __init__(self, seed):
        self.state = seed

    def below(self, limit):
        self.state = (self.state * 6364136223846793005 + 1442695040888963407) % 2**64
        return (self.state >> 33) % limit

    def program(self, most_rows=7):
        worths = tuple(self.below(5) - 2 for _ in range(1 + self.below(3)))
        count = 1 + self.below(most_rows)
        return (worths, tuple(self.row(len(worths), count) for _ in range(count)))

    def row(self, worths, rows):
        word = ("load", "add", "take", "store", "say", "test", "test", "stop")[self.below(8)]
        if word == "stop":
            return ("stop",)
        if word == "say":
            return ("say", self.below(rows))
        if word == "test":
            return ("test", self.below(rows), self.below(rows))
        return (word, self.below(worths), self.below(rows))

    def laying(self, program, most_homes=3):
        worths, rows = program
        wide = 2 + self.below(6)
        places = tuple(self.below(wide) for _ in rows)
        homes = tuple(
            tuple(sorted({self.below(wide) for _ in range(1 + self.below(most_homes))})) for _ in worths
        )
        return (wide, places, homes)

    def way(self, program, most=200):
        """A way from row 0 to a stop, whatever the worths; None if none is found."""
        way = [0]
        for _ in range(most):
            row = program[1][way[-1]]
            if row == ("stop",):
                return way
            ahead = rows_behind(row)
            way.append(ahead[self.below(len(ahead))])
        return None

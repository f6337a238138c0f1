"""What a program does, however it is laid."""

from drumlay.errors import BadFuel
from drumlay.programs import check_program, is_between, uses_worth

MOST_FUEL = 5000
DESK_LOW = -1000000000
DESK_COUNT = 2000000000


class Desk:
    """The desk of a run: the number on it, what the worths hold, and what was said."""

    def __init__(self, worths):
        # The desk changes these: a list by the worths' numbers, or a dict by the spots of their homes.
        self.number = 0
        self.worths = worths
        self.said = []

    def step(self, row):
        """Does a row, and tells the next one; None behind a stop."""
        if uses_worth(row):
            self.use(row[0], row[1])
            return row[2]
        return self.onward(row)

    def onward(self, row):
        """Does a row that uses no worth, and tells the next one; None behind a stop."""
        if row[0] == "stop":
            return None
        if row[0] == "test":
            return row[1] if self.number == 0 else row[2]
        self.said.append(self.number)
        return row[1]

    def use(self, word, worth):
        """Does what the word of a row does with a worth."""
        if word == "load":
            self.number = self.worths[worth]
        elif word == "add":
            self.number = on_desk(self.number + self.worths[worth])
        elif word == "take":
            self.number = on_desk(self.number - self.worths[worth])
        else:
            self.worths[worth] = self.number


def on_desk(number):
    """The number that the desk has for one that may be too far from 0 for it."""
    return (number - DESK_LOW) % DESK_COUNT + DESK_LOW


def check_fuel(fuel):
    """Refuses fuel that is too little or too much."""
    if not is_between(fuel, 0, MOST_FUEL):
        raise BadFuel("fuel is a number from 0 to 5000")


def run(program, fuel):
    """Does at most so many rows: what was said, the end, how often each row and each go was done."""
    check_program(program)
    check_fuel(fuel)
    worths, rows = program
    desk = Desk(list(worths))
    done = [0] * len(rows)
    gone = {}
    end = ("long",)
    row = 0
    for _ in range(fuel):
        done[row] += 1
        to = desk.step(rows[row])
        if to is None:
            end = ("stop",)
            break
        gone[(row, to)] = gone.get((row, to), 0) + 1
        row = to
    goes = [(begin, to, gone[(begin, to)]) for begin, to in sorted(gone)]
    return (desk.said, end, done, goes)

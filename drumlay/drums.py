"""A drum that turns under the head, a row at a time."""

from drumlay.errors import Over
from drumlay.layings import beat_behind, check_laying, first_beat
from drumlay.plain import Desk, check_fuel
from drumlay.programs import check_program


class Drum:
    """A program that lies on a drum: what it has done, and the beat that is now."""

    def __init__(self, program, laying):
        check_program(program)
        check_laying(program, laying)
        self.rows = program[1]
        self.laying = laying
        self.desk = Desk(list(program[0]))
        self.row = 0
        self.now = 0

    def turn(self):
        """Does the next row, and tells its number and the beat in which it is read."""
        if self.row is None:
            raise Over("the drum has stopped")
        number = self.row
        row = self.rows[number]
        wide, places, _ = self.laying
        read = first_beat(self.now, places[number], wide)
        self.now = beat_behind(row, read, self.laying)
        self.row = self.desk.step(row)
        return (number, read)

    def beat(self):
        """The beat that is now."""
        return self.now

    def says(self):
        """What was said, in turn."""
        return list(self.desk.said)

    def holds(self):
        """The numbers of all worths."""
        return list(self.desk.worths)

    def is_over(self):
        """Whether a stop was done."""
        return self.row is None


def spun(program, laying, fuel):
    """Does at most so many rows: what was said, the end, and the beat that is now."""
    drum = Drum(program, laying)
    check_fuel(fuel)
    for _ in range(fuel):
        if drum.is_over():
            break
        drum.turn()
    end = ("stop",) if drum.is_over() else ("long",)
    return (drum.says(), end, drum.beat())

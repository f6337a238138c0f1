"""The loops of a program, and the beats of their rounds."""

from drumlay.errors import TooMany
from drumlay.layings import check_laying, cost
from drumlay.papers import in_rounds, least_beats
from drumlay.programs import check_program, rows_ahead

MOST_LOOPS = 100
MOST_STRETCHES = 3000


def loops(program):
    """All rounds of the rows that come to no row twice, each from its least row on, rising."""
    check_program(program)
    found = []
    stretches = 0
    for start in range(len(program[1])):
        waiting = [(start,)]
        while waiting:
            stretch = waiting.pop()
            stretches += 1
            if stretches > MOST_STRETCHES:
                raise TooMany("there are more than 3000 stretches")
            ahead = rows_ahead(program[1][stretch[-1]])
            if start in ahead:
                found.append(stretch)
            waiting.extend([(*stretch, to) for to in ahead if to > start and to not in stretch])
    if len(found) > MOST_LOOPS:
        raise TooMany("there are more than 100 loops")
    return sorted(found)


def loop_beats(program, laying):
    """For each loop the beats of its round by the laying, and the least beats that a round of it takes."""
    check_program(program)
    check_laying(program, laying)
    told = []
    for loop in loops(program):
        way = (*loop, loop[0])
        takes = sum([cost(program, laying, begin, to) for begin, to in zip(way, way[1:])])
        told.append((loop, takes, in_rounds(least_beats(program, way), laying[0])))
    return told

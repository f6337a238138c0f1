"""What stands on the drum, and the doing of what stands there."""

from drumlay.layings import WORK, beats_of_use, check_laying, first_beat
from drumlay.plain import Desk, check_fuel
from drumlay.programs import check_program, nexts, uses_worth


def tracks(program, laying):
    """How many tracks the laying needs."""
    check_program(program)
    check_laying(program, laying)
    _, _, most = spots_of(laying)
    return most


def image(program, laying):
    """What stands on the drum: its places, row 0's spot, and what stands at each spot."""
    check_program(program)
    check_laying(program, laying)
    rows, worths, _ = spots_of(laying)
    cells = [(spot, row_cell(row, rows, worths)) for spot, row in zip(rows, program[1])]
    for homes, number in zip(worths, program[0]):
        cells.extend([(spot, ("worth", number)) for spot in homes])
    return (laying[0], rows[0], sorted(cells))


def spots_of(laying):
    """The spot of each row, the spots of each worth's homes, and how many tracks these need."""
    wide, places, homes = laying
    used = [0] * wide
    rows = take_spots(places, used)
    worths = []
    for home in homes:
        worths.append(take_spots(home, used))
    return (rows, worths, max(used))


def take_spots(places, used):
    """For each place the spot on its first free track; counts these tracks as used."""
    spots = []
    for place in places:
        spots.append((place, used[place]))
        used[place] += 1
    return tuple(spots)


def row_cell(row, rows, worths):
    """What stands on the drum for a row, where rows and worths have these spots."""
    what = [row[0]]
    if uses_worth(row):
        what.append(worths[row[1]])
    what.extend([rows[to] for to in nexts(row)])
    return tuple(what)


def reeled(told, fuel):
    """Does at most so many rows of what stands there: what was said, the end, and the beat that is now."""
    check_fuel(fuel)
    wide, spot, cells = told
    stands = {at: what for at, what in cells}
    desk = Desk({at: what[1] for at, what in cells if what[0] == "worth"})
    now = 0
    for _ in range(fuel):
        row = stands[spot]
        now = first_beat(now, spot[0], wide)
        spot, now = step_on_drum(desk, row, now, wide)
        if spot is None:
            break
    end = ("stop",) if spot is None else ("long",)
    return (desk.said, end, now)


def step_on_drum(desk, row, read, wide):
    """Does a row that is read then, and tells the spot of the next one, None behind a stop, and the beat behind it."""
    if not uses_worth(row):
        return (desk.onward(row), read + WORK[row[0]] + 1)
    word, homes, to = row
    used = beats_of_use(word, [place for place, _ in homes], read, wide)
    under_head = [beat % wide for beat in used]
    for home in homes:
        if home[0] in under_head:
            desk.use(word, home)
    return (to, used[-1] + WORK[word] + 1)

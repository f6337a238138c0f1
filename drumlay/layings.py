"""What a laying is, and the beats that it takes."""

from drumlay.errors import BadGoes, BadLaying
from drumlay.programs import check_program, goes_that_may_be, is_between, is_number, part, uses_worth

LEAST_WIDE = 2
MOST_WIDE = 24
MOST_HOMES = 3

# The beats for which a row works, behind its reading and the use of its worth.
WORK = {"load": 1, "add": 2, "take": 2, "store": 1, "say": 3, "test": 1, "stop": 0}


def check_laying(program, laying):
    """Refuses what is no laying of the program."""
    worths, rows = program
    wide = part(laying, 0)
    check_wide(wide)
    check_places(part(laying, 1), len(rows), wide)
    check_homes(part(laying, 2), len(worths), wide)
    if len(laying) != 3:
        raise BadLaying("homes", -1)


def check_wide(wide):
    """Refuses what can't be the number of a drum's places."""
    if not is_between(wide, LEAST_WIDE, MOST_WIDE):
        raise BadLaying("wide", 0)


def check_places(places, count, wide):
    """Refuses what can't be the places of so many rows."""
    if not isinstance(places, tuple) or len(places) != count:
        raise BadLaying("places", -1)
    for row, place in enumerate(places):
        if not is_between(place, 0, wide - 1):
            raise BadLaying("places", row)


def check_homes(homes, count, wide):
    """Refuses what can't be the homes of so many worths."""
    if not isinstance(homes, tuple) or len(homes) != count:
        raise BadLaying("homes", -1)
    for worth, places in enumerate(homes):
        if not are_homes(places, wide):
            raise BadLaying("homes", worth)


def are_homes(places, wide):
    """Whether these can be the homes of one worth."""
    if not isinstance(places, tuple) or not 1 <= len(places) <= MOST_HOMES:
        return False
    if not all([is_between(place, 0, wide - 1) for place in places]):
        return False
    return list(places) == sorted(set(places))


def first_beat(now, place, wide):
    """The first beat from now on in which the place is under the head."""
    return now + (place - now) % wide


def beats_of_use(word, places, read, wide):
    """The beats, rising, in which a row of this word that is read then uses a worth with homes at these places."""
    comes = sorted([first_beat(read + 1, place, wide) for place in places])
    if word == "store":
        return comes
    return comes[:1]


def beat_of_use(row, read, laying):
    """The last beat in which a row that is read then uses its worth; that of the reading if it uses none."""
    wide, _, homes = laying
    if not uses_worth(row):
        return read
    return beats_of_use(row[0], homes[row[1]], read, wide)[-1]


def beat_behind(row, read, laying):
    """The beat behind the work of a row that is read then."""
    return beat_of_use(row, read, laying) + WORK[row[0]] + 1


def cost(program, laying, begin, to):
    """The beats from the reading of a row to that of the next one."""
    wide, places, _ = laying
    # The drum stands alike after each round, so the cost is the same for each reading of the row.
    read = places[begin]
    behind = beat_behind(program[1][begin], read, laying)
    return first_beat(behind, places[to], wide) - read


def costs(program, laying):
    """For each go that there may be, rising, the row, the next one, and the beats."""
    check_program(program)
    check_laying(program, laying)
    return [(begin, to, cost(program, laying, begin, to)) for begin, to in goes_that_may_be(program)]


def check_goes(program, goes):
    """Refuses goes by which no way from row 0 to a stop goes."""
    may_be = goes_that_may_be(program)
    if not all([is_go(go, may_be) for go in goes]):
        raise BadGoes("a go is one that there may be, gone once or more")
    pairs = [go[:2] for go in goes]
    if len(set(pairs)) != len(pairs):
        raise BadGoes("a go stands there twice")
    if not goes_agree(program, goes):
        raise BadGoes("a row isn't come to as often as it is gone from")
    found = rows_found(pairs)
    if not all([begin in found for begin, _ in pairs]):
        raise BadGoes("no way from row 0 comes to a row that is gone from")


def check_wide_and_goes(program, wide, goes):
    """Refuses what is no program, no number of places, or no goes of a way."""
    check_program(program)
    check_wide(wide)
    check_goes(program, goes)


def is_go(go, may_be):
    """Whether this is one of the goes that there may be, gone once or more."""
    if not isinstance(go, tuple) or len(go) != 3 or not all([is_number(thing) for thing in go]):
        return False
    return go[:2] in may_be and go[2] >= 1


def goes_agree(program, goes):
    """Whether each row but a stop is gone from as often as it is come to, the beginning at row 0 counted."""
    rows = program[1]
    left = [0] * len(rows)
    left[0] = 1
    for begin, to, many in goes:
        left[begin] -= many
        left[to] += many
    # One too many came to all rows together, and a stop isn't gone from: so just one stop is come to, once.
    return all([over == 0 for row, over in zip(rows, left) if row[0] != "stop"])


def rows_found(pairs):
    """The rows to which these goes lead from row 0, as keys."""
    found = {0: True}
    waiting = [0]
    while waiting:
        row = waiting.pop()
        for begin, to in pairs:
            if begin == row and to not in found:
                found[to] = True
                waiting.append(to)
    return found


def times_done(goes):
    """How often each row that is done is done by these goes, by its number."""
    done = {0: 1}
    for _, to, many in goes:
        done[to] = done.get(to, 0) + many
    return done


def beats(program, laying, goes):
    """The beats of the run that goes so."""
    check_program(program)
    check_laying(program, laying)
    check_goes(program, goes)
    return beats_by(program, laying, goes)


def beats_by(program, laying, goes):
    """The beats of the run that goes so, where all that is handed in is right."""
    going = sum([many * cost(program, laying, begin, to) for begin, to, many in goes])
    return laying[1][0] + going + 1

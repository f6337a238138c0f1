"""The fewest beats that a laying takes with one home for each worth."""

from drumlay.errors import TooMany
from drumlay.layings import beat_behind, beats_by, check_wide_and_goes, times_done
from drumlay.programs import uses_worth

MOST_CORES = 5000


def best(program, wide, goes):
    """The fewest beats of the run that goes so, and a laying that takes them."""
    check_wide_and_goes(program, wide, goes)
    worths = core_worths(program, goes)
    rows = core_rows(goes)
    count = cores(wide, len(worths) + len(rows))
    if count > MOST_CORES:
        raise TooMany("the core can be laid in more than 5000 ways")
    links = links_beside_core(goes, rows)
    told = []
    for number in range(count):
        spots = core_places(number, wide, len(worths) + len(rows))
        homes = homes_of(program, worths, spots[:len(worths)])
        laying = laid(program, wide, rows_at(rows, spots[len(worths):]), homes, links)
        told.append((beats_by(program, laying, goes), laying))
    return min(told)


def core_worths(program, goes):
    """The worths that are used by rows that are done, rising."""
    done = [program[1][row] for row in times_done(goes)]
    return sorted({row[1] for row in done if uses_worth(row)})


def core_rows(goes):
    """The rows but row 0 to which two or more of the goes lead, rising."""
    come_to = [to for _, to, _ in goes]
    return sorted({to for to in come_to if to != 0 and come_to.count(to) >= 2})


def cores(wide, things):
    """In how many ways so many things can be laid."""
    count = 1
    for _ in range(things):
        count *= wide
    return count


def core_places(number, wide, things):
    """The places of so many things in the way of that number to lay them."""
    places = []
    for _ in range(things):
        places.append(number % wide)
        number //= wide
    return places


def homes_of(program, worths, places):
    """The homes of all worths, with these of the core at these places."""
    homes = [(0,)] * len(program[0])
    for worth, place in zip(worths, places):
        homes[worth] = (place,)
    return tuple(homes)


def rows_at(rows, places):
    """The places of the rows that are laid first, by their numbers."""
    # Turning a whole laying changes no cost, so none is better than with row 0 at place 0.
    laid_first = {0: 0}
    for row, place in zip(rows, places):
        laid_first[row] = place
    return laid_first


def links_beside_core(goes, rows):
    """The goes, as pairs, to rows that are neither row 0 nor of the core; each behind the one that leads there."""
    links = []
    waiting = [0, *rows]
    while waiting:
        row = waiting.pop()
        ahead = [to for begin, to, _ in goes if begin == row and to != 0 and to not in rows]
        links.extend([(row, to) for to in ahead])
        waiting.extend(ahead)
    return links


def laid(program, wide, laid_first, homes, links):
    """The laying with these places and homes in which the other rows that are done are read without waiting."""
    # One go alone leads to such a row, and what is read sooner is behind no later.
    places = dict(laid_first)
    for begin, to in links:
        behind = beat_behind(program[1][begin], places[begin], (wide, (), homes))
        places[to] = behind % wide
    return (wide, tuple([places.get(row, 0) for row in range(len(program[1]))]), homes)

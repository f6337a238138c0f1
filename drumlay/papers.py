"""Papers: what shows that no laying with one home for each worth takes fewer beats."""

from heapq import heappop, heappush

from drumlay.errors import BadPaper
from drumlay.layings import WORK, check_wide_and_goes, times_done
from drumlay.programs import is_number, nexts, part, uses_worth

# Here a half of a row's time is a tuple: (row,) is the first one, (row, next) the second one of that go.


def bound(program, wide, goes, told):
    """The beats that the paper shows to be needed by the run that goes so."""
    check_wide_and_goes(program, wide, goes)
    left = halves_done(goes)
    shown = 0
    for at, entry in enumerate(told):
        if not is_entry(program, left, entry):
            raise BadPaper(at)
        _, way, many = entry
        take_halves(left, way, many)
        if any([left[half] < 0 for half in halves(way)]):
            raise BadPaper(at)
        shown += many * in_rounds(least_beats(program, way), wide)
    return shown + sum([many * least_half(program, half) for half, many in left.items()])


def halves_done(goes):
    """How often each half is done by these goes."""
    done = {(row,): many for row, many in times_done(goes).items()}
    for begin, to, many in goes:
        done[(begin, to)] = many
    return done


def is_entry(program, done, entry):
    """Whether this is a sort, a way of that sort by these halves, and how often, once or more."""
    way = part(entry, 1)
    many = part(entry, 2)
    if not is_way(done, way) or len(entry) != 3 or not is_number(many) or many < 1:
        return False
    if entry[0] == "row":
        return way[0] == way[-1]
    return entry[0] == "worth" and use_one_worth(program, way[0], way[-1])


def is_way(done, way):
    """Whether this is a tuple of two or more rows, each next one gone to from the one ahead."""
    if not isinstance(way, tuple) or len(way) < 2 or not all([is_number(row) for row in way]):
        return False
    return all([pair in done for pair in zip(way, way[1:])])


def use_one_worth(program, row, other):
    """Whether both rows use the same worth."""
    first = program[1][row]
    last = program[1][other]
    return uses_worth(first) and uses_worth(last) and first[1] == last[1]


def halves(way):
    """The halves of a way, each as often as the way goes by it."""
    # A "row" way ends where it begins, so the first halves of all but its last row are those of all but its first.
    return list(zip(way, way[1:])) + [(row,) for row in way[1:]]


def take_halves(left, way, many):
    """Takes the halves of a way so often from those that are left."""
    for half in halves(way):
        left[half] -= many


def least_half(program, half):
    """The least beats of a half."""
    if len(half) == 1:
        return 1
    row = program[1][half[0]]
    use = 1 if uses_worth(row) else 0
    return use + WORK[row[0]]


def least_beats(program, way):
    """The least beats of all halves of a way."""
    return sum([least_half(program, half) for half in halves(way)])


def in_rounds(beats, wide):
    """So many beats, rounded up to whole rounds."""
    return beats + (-beats) % wide


def paper(program, wide, goes):
    """A paper for the run that goes so."""
    check_wide_and_goes(program, wide, goes)
    left = halves_done(goes)
    told = []
    found = ways_to_take(program, wide, left)
    while found:
        _, sort, way = min(found)
        many = min([left[half] for half in halves(way)])
        told.append((sort, way, many))
        take_halves(left, way, many)
        found = ways_to_take(program, wide, left)
    return told


def ways_to_take(program, wide, left):
    """The ways by halves that are left that show more than their halves do, each with its rank and its sort."""
    found = []
    for start in range(len(program[1])):
        for beats, way in shortest_ways(program, left, start):
            sort = sort_of(program, way)
            whole = in_rounds(beats, wide)
            if sort is not None and whole > beats:
                # What is waited on a way counts for more the fewer halves it uses up, so the emptiest is taken first.
                found.append((1000 * beats // whole, sort, way))
    return found


def sort_of(program, way):
    """A sort of which the way is one; None if there is none."""
    if way[0] == way[-1]:
        return "row"
    if use_one_worth(program, way[0], way[-1]):
        return "worth"
    return None


def shortest_ways(program, left, start):
    """For each row that is come to from this one by halves that are left, the least beats and such a way."""
    found = {}
    queue = [(0, (start,))]
    while queue:
        beats, way = heappop(queue)
        row = way[-1]
        if row in found:
            continue
        if len(way) > 1:
            found[row] = (beats, way)
        for to in nexts(program[1][row]):
            # Where the second half of a go is left, so is the first one of the row to which it leads.
            if to not in found and left.get((row, to), 0) > 0:
                behind = beats + least_half(program, (row, to)) + least_half(program, (to,))
                heappush(queue, (behind, (*way, to)))
    return list(found.values())

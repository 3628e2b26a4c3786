"""Winners: which combinations of a pool have won and aren't refunded."""

from raceresults.arrivals import VOID
from raceresults.classes import classes_of
from raceresults.combinations import Part, count_rows, number_of_row, row_at
from raceresults.refusals import NoWinner
from raceresults.rightness import heads_right_in_leg, placed_heads


# races and arrivals are those of the pool's own races, and none of these is open.
def winning_number(pool, races, arrivals, i):
    parts = winning_parts(pool, races, arrivals)
    if i >= count_rows(pool.kind, parts):
        raise NoWinner()
    return number_of_row(pool, races, row_at(pool.kind, parts, i))


# An interest that's out is never right, so of those that have won a void race alone could refund any.
def winning_parts(pool, races, arrivals):
    if pool.kind == "legs":
        return [Part(heads_right_in_leg(race, arrival), 1) for race, arrival in zip(races, arrivals)]
    if arrivals[0].state == VOID:
        raise NoWinner()
    classes = classes_of(races[0], arrivals[0])
    if pool.kind == "place":
        return [Part(placed_heads(pool.k, classes), 1)]
    return first_parts(pool.k, classes)


# All of each class that ends within the first k, and as many as are missing of the class in which these end.
def first_parts(k, classes):
    parts = []
    missing = k
    for heads in classes:
        taken = min(len(heads), missing)
        parts.append(Part(heads, taken))
        missing -= taken
    if missing > 0:
        raise NoWinner()
    return parts

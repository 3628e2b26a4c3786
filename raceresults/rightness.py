"""How far a combination is right, and whether it's refunded."""

from raceresults.arrivals import VOID
from raceresults.classes import classes_of, starting_heads

REFUNDED = 100


# races and arrivals are those of the pool's own races, and none of these is open.
def rightness(pool, row, races, arrivals):
    if pool.kind == "legs":
        return legs_rightness(row, races, arrivals)
    return race_rightness(pool, row, races[0], arrivals[0])


def legs_rightness(row, races, arrivals):
    right_legs = 0
    for head, race, arrival in zip(row, races, arrivals):
        if has_out([head], race, arrival):
            return REFUNDED
        if head in heads_right_in_leg(race, arrival):
            right_legs += 1
    return right_legs


def heads_right_in_leg(race, arrival):
    return race.interests() if arrival.state == VOID else classes_of(race, arrival)[0]


def race_rightness(pool, row, race, arrival):
    if arrival.state == VOID or has_out(row, race, arrival):
        return REFUNDED
    classes = classes_of(race, arrival)
    if pool.kind == "place":
        return 1 if row[0] in placed_heads(pool.k, classes) else 0
    if pool.kind == "order":
        return order_rightness(row, classes)
    return any_rightness(row, classes)


# In a void race no runner is out, so of legs such a race refunds nothing.
def has_out(row, race, arrival):
    starters = starting_heads(race, arrival)
    return any([head not in starters for head in row])


def placed_heads(k, classes):
    placed = []
    # The last class stands behind: its interests haven't come in, however few are before them.
    for heads in classes[:-1]:
        if len(placed) < k:
            placed.extend(heads)
    return sorted(placed)


# A class may come in any order, so a number is right where any one of the class that's due may stand.
def order_rightness(row, classes):
    due = []
    for heads in classes:
        due.extend([heads] * len(heads))
    met = 0
    for head, heads in zip(row, due):
        if head not in heads:
            return met
        met += 1
    return met


# Behind a class of which one is missing, none of a later class can be among the first.
def any_rightness(row, classes):
    met = 0
    for heads in classes:
        found = len([head for head in row if head in heads])
        met += found
        if found < len(heads):
            return met
    return met

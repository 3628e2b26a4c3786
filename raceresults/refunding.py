"""Refunds: how many combinations of a pool are refunded."""

from raceresults.arrivals import VOID
from raceresults.classes import starting_heads
from raceresults.combinations import all_parts, count_rows, parts_of
from raceresults.refusals import TooMany

MOST_ROWS = 65536


# races and arrivals are those of the pool's own races, and none of these is open.
def count_refunded(pool, races, arrivals):
    rows = count_rows(pool.kind, all_parts(pool, races))
    if rows > MOST_ROWS:
        raise TooMany()
    return rows - count_kept(pool, races, arrivals)


# Those that aren't refunded are counted, so that a row with several interests that are out counts but once.
def count_kept(pool, races, arrivals):
    if pool.kind != "legs" and arrivals[0].state == VOID:
        return 0
    choices = [list(starting_heads(race, arrival)) for race, arrival in zip(races, arrivals)]
    return count_rows(pool.kind, parts_of(pool, choices))

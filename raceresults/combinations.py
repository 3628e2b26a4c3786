"""Combinations: how many a pool has, which row of numbers stands at a place among them, and at which a row stands.

Rows are counted, not made one by one: six legs may have 24 to the 6th.
"""

from raceresults.refusals import NoNumber


# A row is put together from parts, one behind the other: of each part's heads so many are taken.
class Part:
    def __init__(self, heads, taken):
        self.heads = heads
        self.taken = taken


# choices has, for each of the pool's own races, the heads that may stand in a row.
def parts_of(pool, choices):
    taken = pool.k if pool.kind in ("order", "any") else 1
    return [Part(heads, taken) for heads in choices]


# races are those of the pool's own.
def all_parts(pool, races):
    return parts_of(pool, [race.interests() for race in races])


def row_with_number(pool, races, number):
    parts = all_parts(pool, races)
    if number >= count_rows(pool.kind, parts):
        raise NoNumber()
    return row_at(pool.kind, parts, number)


def number_of_row(pool, races, row):
    number = 0
    start = 0
    for part in all_parts(pool, races):
        end = start + part.taken
        number = number * count_taken(pool.kind, part) + number_in_part(pool.kind, part.heads, row[start:end])
        start = end
    return number


def count_rows(kind, parts):
    rows = 1
    for part in parts:
        rows *= count_taken(kind, part)
    return rows


# The last part's heads change fastest. Of any the sorting mixes the parts, and the rows rise all the same, since
# among the parts that are handed in there's at most one of which not all is taken.
def row_at(kind, parts, number):
    row = []
    for part in reversed(parts):
        number, at = divmod(number, count_taken(kind, part))
        row = taken_at(kind, part, at) + row
    return sorted(row) if kind == "any" else row


def count_taken(kind, part):
    if kind == "any":
        return count_rising(len(part.heads), part.taken)
    return count_ordered(len(part.heads), part.taken)


def taken_at(kind, part, number):
    if kind == "any":
        return rising_row(part.heads, part.taken, number)
    return ordered_row(part.heads, part.taken, number)


def number_in_part(kind, heads, row):
    if kind == "any":
        return rising_number(heads, row)
    return ordered_number(heads, row)


def count_ordered(heads, k):
    rows = 1
    for taken in range(k):
        rows *= heads - taken
    return rows


def count_rising(heads, k):
    return count_ordered(heads, k) // count_ordered(k, k)


def ordered_row(heads, k, number):
    left = list(heads)
    row = []
    for missing in range(k - 1, -1, -1):
        at, number = divmod(number, count_ordered(len(left) - 1, missing))
        row.append(left.pop(at))
    return row


def ordered_number(heads, row):
    left = list(heads)
    number = 0
    for head in row:
        number = number * len(left) + left.index(head)
        left.remove(head)
    return number


def rising_row(heads, k, number):
    row = []
    for at, head in enumerate(heads):
        if len(row) == k:
            return row
        rows_with_head = count_rising(len(heads) - at - 1, k - len(row) - 1)
        if number < rows_with_head:
            row.append(head)
        else:
            number -= rows_with_head
    return row


def rising_number(heads, row):
    number = 0
    met = 0
    for at, head in enumerate(heads):
        if met == len(row):
            return number
        if head == row[met]:
            met += 1
        else:
            number += count_rising(len(heads) - at - 1, len(row) - met - 1)
    return number

"""Combinations: how many a pool has, and the row of numbers that stands at a place among them."""

from raceresults.refusals import NoNumber


# races are those of the pool's own. Rows are counted, not made one by one: six legs may have 24 to the 6th.
def row_with_number(pool, races, number):
    choices = [race.interests() for race in races]
    if number >= count_rows(pool, choices):
        raise NoNumber()
    if pool.kind == "order":
        return ordered_row(choices[0], pool.k, number)
    if pool.kind == "any":
        return rising_row(choices[0], pool.k, number)
    return row_of_races(choices, number)


def count_rows(pool, choices):
    if pool.kind == "order":
        return count_ordered(len(choices[0]), pool.k)
    if pool.kind == "any":
        return count_rising(len(choices[0]), pool.k)
    rows = 1
    for heads in choices:
        rows *= len(heads)
    return rows


def count_ordered(heads, k):
    rows = 1
    for taken in range(k):
        rows *= heads - taken
    return rows


def count_rising(heads, k):
    return count_ordered(heads, k) // count_ordered(k, k)


def ordered_row(heads, k, number):
    left = list(heads)
    row = []
    for missing in range(k - 1, -1, -1):
        at, number = divmod(number, count_ordered(len(left) - 1, missing))
        row.append(left.pop(at))
    return row


def rising_row(heads, k, number):
    row = []
    for at, head in enumerate(heads):
        if len(row) == k:
            return row
        rows_with_head = count_rising(len(heads) - at - 1, k - len(row) - 1)
        if number < rows_with_head:
            row.append(head)
        else:
            number -= rows_with_head
    return row


# One interest of each race, the last race's changing fastest; a pool of place has the one race.
def row_of_races(choices, number):
    row = []
    for heads in reversed(choices):
        number, at = divmod(number, len(heads))
        row.append(heads[at])
    row.reverse()
    return row

"""The classes of a race that came: which of its interests came in together, and which stand behind."""


def classes_of(race, arrival):
    met = {}
    classes = []
    for group in arrival.groups:
        classes.append(newcomers(group, race.heads, met))
    starters = starting_heads(race, arrival)
    classes.append([head for head in race.interests() if head in starters and head not in met])
    return classes


# met holds the heads of all groups before, since an interest comes in with its first runner alone.
def newcomers(group, heads, met):
    found = []
    for runner in group:
        head = heads[runner]
        if head not in met:
            met[head] = True
            found.append(head)
    # A group rises by its runners, and a runner's head may stand far below it.
    return sorted(found)


# One runner that isn't out is enough to keep its interest in the race.
def starting_heads(race, arrival):
    starters = {}
    for runner in range(1, race.runners + 1):
        if runner not in arrival.out:
            starters[race.heads[runner]] = True
    return starters

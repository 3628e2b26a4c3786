"""Races as chance makes them, and every row that such a race's arrival may be, written out."""

import itertools


class Field:
    """One race as chance made it: its interests with their runners, its groups, and who is out."""

    def __init__(self, chance, most):
        count = chance.randrange(2, most + 1)
        self.interests = {runner: [runner] for runner in range(1, count + 1)}
        self.race = str(count)
        for couple in range(chance.choice((0, 0, 1, 2))):
            single = [head for head in self.interests if head > 1 and len(self.interests[head]) == 1]
            if single and len(self.interests) > 2:
                b = chance.choice(single)
                a = chance.choice([head for head in self.interests if head < b])
                self.interests[a] += self.interests.pop(b)
                self.race += f" couple {a} {b}"
        runners = list(range(1, count + 1))
        chance.shuffle(runners)
        self.groups = []
        while runners and (not self.groups or chance.randrange(4)):
            size = min(len(runners), chance.choice((1, 1, 1, 2, 3)))
            self.groups.append(sorted(runners.pop() for each in range(size)))
        self.out = sorted(runners[:chance.choice((0, 0, 1, 2, 5))])
        self.void = chance.randrange(8) == 0

    def arrival(self):
        if self.void:
            return "void"
        groups = " ".join("=".join(map(str, group)) for group in self.groups)
        return groups + (" out " + ",".join(map(str, self.out)) if self.out else "")

    def is_out(self, head):
        return not self.void and set(self.interests[head]) <= set(self.out)

    def group(self, head):
        return min([at for at in range(len(self.groups)) if set(self.groups[at]) & set(self.interests[head])],
                   default=None)

    def rows(self):
        started = [head for head in self.interests if not self.is_out(head)]
        kept = []
        for row in itertools.permutations(started):
            places = [len(self.groups) if self.group(head) is None else self.group(head) for head in row]
            if places == sorted(places):
                kept.append(row)
        return kept

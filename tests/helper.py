"""How the tests tell calls and read answers, and a second way to reckon what is answered.

The second way shares nothing with the program: worlds are tuples of True and False, claims
are sets of them, and the parts are sought among all ways to sort the letters into groups.
"""

from itertools import product

from claimparts.claims import answers

NAMES = ("begin", "claim", "learn", "revise", "splits", "parts", "byletter", "part", "ways", "same", "lone",
         "free", "touched", "would", "partsof", "kept", "keep", "says", "follows", "by", "look", "state")

TOP = 4294967295


def told(calls):
    """One list of numbers for calls such as ("begin", 2, 9)."""
    numbers = []
    for call in calls:
        numbers.append(NAMES.index(call[0]))
        numbers.extend(call[1:])
    return numbers


def cut(numbers):
    """The answers one by one, from the list that they are given back in."""
    found = []
    place = 0
    while place < len(numbers):
        count = numbers[place]
        found.append(numbers[place + 1:place + 1 + count])
        place += 1 + count
    if place != len(numbers):
        raise ValueError("the last answer is cut short")
    return found


def run(*calls):
    """What each call answers, on a new object."""
    return cut(answers(told(calls)))


def last(*calls):
    """What the last of these calls answers."""
    return run(*calls)[-1]


def letters_of(m):
    """The claims that say of each letter that it is so, and the one that is always so."""
    claims = []
    for letter in range(m):
        claims.append(sum(1 << world for world in range(1 << m) if world >> letter & 1))
    return claims + [(1 << (1 << m)) - 1]


def groupings(things):
    """All ways to sort things into groups."""
    if not things:
        return [[]]
    found = []
    for rest in groupings(things[1:]):
        found.append([[things[0]]] + rest)
        for place in range(len(rest)):
            found.append(rest[:place] + [[things[0]] + rest[place]] + rest[place + 1:])
    return found


class Model:
    """What the document asks of one object, reckoned the second way."""

    def __init__(self):
        self.m = None
        self.held = None

    def all_worlds(self):
        return [tuple(reversed(world)) for world in product((False, True), repeat=self.m)]

    def worlds(self, number):
        return {world for place, world in enumerate(self.all_worlds()) if number >> place & 1}

    def number(self, worlds):
        return sum(1 << place for place, world in enumerate(self.all_worlds()) if world in worlds)

    def look(self, worlds, group):
        return {tuple(world[letter] for letter in group) for world in worlds}

    def groups(self, worlds):
        """The finest grouping in which every way of each group goes with every way of the others."""
        best = None
        for grouping in groupings(list(range(self.m))):
            count = 1
            for group in grouping:
                count *= len(self.look(worlds, group))
            if count == len(worlds) and (best is None or len(grouping) > len(best)):
                best = grouping
        return sorted(sorted(group) for group in best)

    def says(self, worlds, group):
        seen = self.look(worlds, group)
        return {world for world in self.all_worlds() if tuple(world[letter] for letter in group) in seen}

    def depends(self, worlds, letter):
        for world in worlds:
            turned = world[:letter] + (not world[letter],) + world[letter + 1:]
            if turned not in worlds:
                return True
        return False

    def is_claim(self, number):
        return number < 2 ** (2 ** self.m)

    def call(self, name, *given):
        if name == "begin":
            return self.begin(*given)
        if self.m is None:
            return [-11]
        if name in ("claim", "learn", "revise"):
            return self.change(name, given[0])
        return self.ask(name, *given)

    def begin(self, m, p):
        if m not in (1, 2, 3, 4) or p >= 2 ** (2 ** m):
            return [-22]
        if p == 0:
            return [-33]
        self.m = m
        self.held = self.worlds(p)
        return [0]

    def change(self, name, number):
        if not self.is_claim(number):
            return [-22]
        before = self.held
        given = self.worlds(number)
        both = before & given
        if name == "learn" and not both or not given:
            return [-33]
        if name == "claim":
            self.held = given
            return [self.number(before)]
        if both:
            self.held = both
        else:
            self.held = given
            for group in self.groups(before):
                if not any(self.depends(given, letter) for letter in group):
                    self.held = self.held & self.says(before, group)
        if name == "learn":
            return [len(self.groups(self.held))]
        return [1 if both else 0, self.number(self.held)]

    def ask(self, name, *given):
        groups = self.groups(self.held)
        sets = [sum(1 << letter for letter in group) for group in groups]
        if name == "splits":
            s = given[0]
            if s >= 2 ** self.m:
                return [-22]
            return [1 if all(part & s in (0, part) for part in sets) else 0]
        if name == "parts":
            return [len(sets)] + sets
        if name == "byletter":
            return [self.m] + [group[0] for letter in range(self.m) for group in groups if letter in group]
        if name == "part":
            k = given[0]
            if k >= len(groups):
                return [-33]
            return [sets[k], self.number(self.says(self.held, groups[k])), len(self.look(self.held, groups[k]))]
        if name == "ways":
            return [len(self.held)] + [len(self.look(self.held, group)) for group in groups]
        if name == "same":
            if max(given) >= self.m:
                return [-2]
            return [1 if any(given[0] in group and given[1] in group for group in groups) else 0]
        alone = [group[0] for group in groups if len(group) == 1]
        return [len(alone)] + alone

"""How the tests tell calls and read answers, and a second way to reckon what is answered.

The second way shares nothing with the program: worlds are tuples of True and False, claims
are sets of them, and the parts are sought among all ways to sort the letters into groups.
"""

from itertools import product

from claimparts.claims import answers

NAMES = ("begin", "claim", "learn", "revise", "splits", "parts", "byletter", "part", "ways", "same", "lone",
         "free", "touched", "would", "partsof", "kept", "keep", "says", "follows", "by", "look", "state")

# Those that are handed one claim or one set of letters.
CHANGING = ("claim", "learn", "revise")
OF_CLAIM = ("touched", "would", "partsof", "kept", "follows", "by")
OF_LETTERS = ("splits", "keep", "says")

GREATEST = {1: 3, 2: 15, 3: 255, 4: 65535}
TOP = 4294967295


def told(calls):
    """One list of numbers for calls such as ("begin", 2, 9)."""
    numbers = []
    for call in calls:
        numbers.append(NAMES.index(call[0]))
        numbers.extend(call[1:])
    return numbers


def cut(numbers):
    """The answers one by one, from the list that they are given back in."""
    found = []
    place = 0
    while place < len(numbers):
        count = numbers[place]
        found.append(numbers[place + 1:place + 1 + count])
        place += 1 + count
    if place != len(numbers):
        raise ValueError("the last answer is cut short")
    return found


def run(*calls):
    """What each call answers, on a new object."""
    return cut(answers(told(calls)))


def last(*calls):
    """What the last of these calls answers."""
    return run(*calls)[-1]


def letters_of(m):
    """The claims that say of each letter that it is so, and the one that is always so."""
    claims = []
    for letter in range(m):
        claims.append(sum(1 << world for world in range(1 << m) if world >> letter & 1))
    return claims + [(1 << (1 << m)) - 1]


def made_of_parts(chance):
    """A claim of four letters that is so where one claim of two letters is, and another of the two others."""
    order = chance.sample(range(4), 4)
    one = chance.randrange(1, 16)
    two = chance.randrange(1, 16)
    made = 0
    for world in range(16):
        bits = [world >> letter & 1 for letter in order]
        if one >> (bits[0] + 2 * bits[1]) & 1 and two >> (bits[2] + 2 * bits[3]) & 1:
            made |= 1 << world
    return made


def any_call(chance, sizes):
    """Any call, mostly with numbers that fit some m, now and then with ones that fit none."""
    name = chance.choice(NAMES)
    claim = chance.choice((0, 1, chance.randrange(4), chance.randrange(16), chance.randrange(256),
                           chance.randrange(65536), made_of_parts(chance), 65535 ^ made_of_parts(chance),
                           chance.randrange(65530, 65540), TOP))
    small = chance.choice((0, 1, 2, 3, 4, 5, TOP))
    if name == "begin":
        return (name, chance.choice(sizes), claim)
    if name in CHANGING + OF_CLAIM:
        return (name, claim)
    if name in OF_LETTERS:
        return (name, chance.choice((chance.randrange(4), chance.randrange(18), TOP)))
    if name == "part":
        return (name, small)
    if name == "same":
        return (name, small, chance.randrange(5))
    return (name,)


def groupings(things):
    """All ways to sort things into groups."""
    if not things:
        return [[]]
    found = []
    for rest in groupings(things[1:]):
        found.append([[things[0]]] + rest)
        for place in range(len(rest)):
            found.append(rest[:place] + [[things[0]] + rest[place]] + rest[place + 1:])
    return found


class Model:
    """What the document asks of one object, reckoned the second way."""

    def __init__(self):
        self.m = None
        self.held = None

    def all_worlds(self):
        return [tuple(reversed(world)) for world in product((False, True), repeat=self.m)]

    def worlds(self, number):
        return {world for place, world in enumerate(self.all_worlds()) if number >> place & 1}

    def number(self, worlds):
        return sum(1 << place for place, world in enumerate(self.all_worlds()) if world in worlds)

    def seen(self, worlds, group):
        return {tuple(world[letter] for letter in group) for world in worlds}

    def groups(self, worlds):
        """The finest grouping in which every way of each group goes with every way of the others."""
        best = None
        for grouping in groupings(list(range(self.m))):
            count = 1
            for group in grouping:
                count *= len(self.seen(worlds, group))
            if count == len(worlds) and (best is None or len(grouping) > len(best)):
                best = grouping
        return sorted(sorted(group) for group in best)

    def sets(self, groups):
        return [sum(1 << letter for letter in group) for group in groups]

    def said(self, worlds, group):
        seen = self.seen(worlds, group)
        return {world for world in self.all_worlds() if tuple(world[letter] for letter in group) in seen}

    def depends(self, worlds, letter):
        for world in worlds:
            turned = world[:letter] + (not world[letter],) + world[letter + 1:]
            if turned not in worlds:
                return True
        return False

    def touching(self, worlds):
        """The groups of what is held in which a letter is that these worlds depend on."""
        deciding = {letter for letter in range(self.m) if self.depends(worlds, letter)}
        return [group for group in self.groups(self.held) if deciding & set(group)]

    def behind_revise(self, given):
        if self.held & given:
            return self.held & given
        behind = set(given)
        touched = self.touching(given)
        for group in self.groups(self.held):
            if group not in touched:
                behind &= self.said(self.held, group)
        return behind

    def call(self, name, *given):
        if name == "begin":
            return self.begin(*given)
        if self.m is None:
            return [-11]
        if name in CHANGING:
            return self.change(name, given[0])
        if name in OF_CLAIM:
            return self.ask_of_claim(name, given[0])
        if name in OF_LETTERS:
            return self.ask_of_letters(name, given[0])
        return self.ask(name, *given)

    def begin(self, m, p):
        if m not in (1, 2, 3, 4) or p >= 2 ** (2 ** m):
            return [-22]
        if p == 0:
            return [-33]
        self.m = m
        self.held = self.worlds(p)
        return [0]

    def change(self, name, number):
        if number >= 2 ** (2 ** self.m):
            return [-22]
        before = self.held
        given = self.worlds(number)
        both = before & given
        if name == "learn" and not both or not given:
            return [-33]
        if name == "claim":
            self.held = given
            return [self.number(before)]
        self.held = self.behind_revise(given)
        if name == "learn":
            return [len(self.groups(self.held))]
        return [1 if both else 0, self.number(self.held)]

    def ask_of_claim(self, name, number):
        if number >= 2 ** (2 ** self.m):
            return [-22]
        given = self.worlds(number)
        both = self.held & given
        if name in ("would", "kept") and not given or name == "partsof" and not both:
            return [-33]
        if name == "by" and both != self.held:
            return [-33]
        if name == "would":
            return [self.number(self.behind_revise(given))]
        if name == "kept":
            behind = self.behind_revise(given)
            return [sum(1 for group in self.groups(self.held) if behind <= self.said(self.held, group))]
        if name == "follows":
            return [1 if both == self.held else 0]
        sets = self.sets(self.groups(both) if name == "partsof" else self.touching(given))
        return [len(sets)] + sets

    def ask_of_letters(self, name, s):
        if s >= 2 ** self.m:
            return [-22]
        if name == "splits":
            return [1 if all(part & s in (0, part) for part in self.sets(self.groups(self.held))) else 0]
        chosen = [letter for letter in range(self.m) if s >> letter & 1]
        if name == "keep":
            return [self.number(self.said(self.held, chosen))]
        return [1 if len(self.seen(self.held, chosen)) < 2 ** len(chosen) else 0]

    def ask(self, name, *given):
        groups = self.groups(self.held)
        sets = self.sets(groups)
        if name == "parts":
            return [len(sets)] + sets
        if name == "byletter":
            return [self.m] + [group[0] for letter in range(self.m) for group in groups if letter in group]
        if name == "part":
            k = given[0]
            if k >= len(groups):
                return [-33]
            return [sets[k], self.number(self.said(self.held, groups[k])), len(self.seen(self.held, groups[k]))]
        if name == "ways":
            return [len(self.held)] + [len(self.seen(self.held, group)) for group in groups]
        if name == "same":
            if max(given) >= self.m:
                return [-2]
            return [1 if any(given[0] in group and given[1] in group for group in groups) else 0]
        if name == "look":
            return [self.number(self.held)]
        if name == "state":
            return [self.m, len(groups)]
        if name == "free":
            chosen = [letter for letter in range(self.m) if not self.depends(self.held, letter)]
        else:
            chosen = [group[0] for group in groups if len(group) == 1]
        return [len(chosen)] + chosen

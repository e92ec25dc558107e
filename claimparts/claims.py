"""One object that holds a claim: the calls on it come in one list, their answers go out in one.

Claims, worlds and sets of letters are numbers; m is how many letters there are.
"""

NO_SUCH_LETTER = -2
BEFORE_BEGIN = -11
NOT_RIGHT = -22
CANNOT_BE = -33

BEGIN = 0

# How many numbers stand behind each call's own.
WIDTHS = (2, 1, 1, 1, 1, 0, 0, 1, 0, 2, 0, 0, 1, 1, 1, 1, 1, 1, 1, 1, 0, 0)


class Holding:
    """How many letters there are and which claim is held; no letters means no begin yet."""

    def __init__(self):
        self.m = 0
        self.held = 0


def every_letter(m):
    """The set of all letters, which is the greatest set of letters too."""
    return (1 << m) - 1


def every_world(m):
    """The claim that is always so, which is the greatest claim too."""
    return (1 << (1 << m)) - 1


def has(number, place):
    """Whether a claim has this world, or a set of letters this letter."""
    return (number >> place) & 1 == 1


def ways_of(m, claim, letters):
    """The ways that these letters can be in, in the worlds in which the claim is so."""
    seen = {}
    for world in range(1 << m):
        if has(claim, world):
            seen[world & letters] = True
    return list(seen)


def says_of(m, claim, letters):
    """What the claim says of these letters."""
    seen = ways_of(m, claim, letters)
    said = 0
    for world in range(1 << m):
        if (world & letters) in seen:
            said = said | (1 << world)
    return said


def depends_on(m, claim, letter):
    """Whether the claim depends on this letter."""
    others = every_letter(m) ^ (1 << letter)
    return says_of(m, claim, others) != claim


def falls_apart_by(m, claim, letters):
    """Whether the claim falls apart by these letters."""
    others = every_letter(m) ^ letters
    both = says_of(m, claim, letters) & says_of(m, claim, others)
    return both == claim


def part_of(m, claim, letter):
    """The part that this letter is in."""
    part = every_letter(m)
    for letters in range(1 << m):
        if has(letters, letter) and falls_apart_by(m, claim, letters):
            part = part & letters
    return part


def least_letter(letters):
    """The least letter of a set that has one."""
    letter = 0
    while not has(letters, letter):
        letter = letter + 1
    return letter


def parts_of(m, claim):
    """The claim's parts, by their least letters, rising."""
    found = []
    for letter in range(m):
        part = part_of(m, claim, letter)
        # Each part is met at each of its letters, and is taken at the least.
        if least_letter(part) == letter:
            found.append(part)
    return found


def touches(m, claim, part):
    """Whether the claim depends on a letter of this part."""
    for letter in range(m):
        if has(part, letter) and depends_on(m, claim, letter):
            return True
    return False


def touched_parts(m, held, q):
    """The parts of what is held that q touches."""
    return [part for part in parts_of(m, held) if touches(m, q, part)]


def follows_of(claim, q):
    """Whether q is so in each world in which the claim is."""
    return claim & q == claim


def revised(m, held, q):
    """What is held once q, which is so in some world, is taken in."""
    if held & q != 0:
        return held & q
    left = q
    for part in parts_of(m, held):
        if not touches(m, q, part):
            left = left & says_of(m, held, part)
    return left


# Each call below is handed the object and the numbers that stand behind the call's own;
# it gives back the answer as a list, and changes the object only where it does not refuse.


def call_begin(now, given):
    m = given[0]
    p = given[1]
    # m goes first: how great a claim may be is only asked of an m that is right.
    if m < 1 or m > 4 or p > every_world(m):
        return [NOT_RIGHT]
    if p == 0:
        return [CANNOT_BE]
    now.m = m
    now.held = p
    return [0]


def call_claim(now, given):
    p = given[0]
    if p > every_world(now.m):
        return [NOT_RIGHT]
    if p == 0:
        return [CANNOT_BE]
    before = now.held
    now.held = p
    return [before]


def call_learn(now, given):
    q = given[0]
    if q > every_world(now.m):
        return [NOT_RIGHT]
    if now.held & q == 0:
        return [CANNOT_BE]
    now.held = now.held & q
    return [len(parts_of(now.m, now.held))]


def call_revise(now, given):
    q = given[0]
    if q > every_world(now.m):
        return [NOT_RIGHT]
    if q == 0:
        return [CANNOT_BE]
    both = 1 if now.held & q != 0 else 0
    now.held = revised(now.m, now.held, q)
    return [both, now.held]


def call_splits(now, given):
    s = given[0]
    if s > every_letter(now.m):
        return [NOT_RIGHT]
    return [1 if falls_apart_by(now.m, now.held, s) else 0]


def call_parts(now, given):
    found = parts_of(now.m, now.held)
    return [len(found)] + found


def call_byletter(now, given):
    return [now.m] + [least_letter(part_of(now.m, now.held, letter)) for letter in range(now.m)]


def call_part(now, given):
    k = given[0]
    found = parts_of(now.m, now.held)
    if k >= len(found):
        return [CANNOT_BE]
    part = found[k]
    return [part, says_of(now.m, now.held, part), len(ways_of(now.m, now.held, part))]


def call_ways(now, given):
    worlds = len(ways_of(now.m, now.held, every_letter(now.m)))
    return [worlds] + [len(ways_of(now.m, now.held, part)) for part in parts_of(now.m, now.held)]


def call_same(now, given):
    i = given[0]
    j = given[1]
    if i >= now.m or j >= now.m:
        return [NO_SUCH_LETTER]
    return [1 if has(part_of(now.m, now.held, i), j) else 0]


def call_lone(now, given):
    found = [letter for letter in range(now.m) if part_of(now.m, now.held, letter) == (1 << letter)]
    return [len(found)] + found


def call_free(now, given):
    found = [letter for letter in range(now.m) if not depends_on(now.m, now.held, letter)]
    return [len(found)] + found


def call_touched(now, given):
    q = given[0]
    if q > every_world(now.m):
        return [NOT_RIGHT]
    found = touched_parts(now.m, now.held, q)
    return [len(found)] + found


def call_would(now, given):
    q = given[0]
    if q > every_world(now.m):
        return [NOT_RIGHT]
    if q == 0:
        return [CANNOT_BE]
    return [revised(now.m, now.held, q)]


def call_partsof(now, given):
    q = given[0]
    if q > every_world(now.m):
        return [NOT_RIGHT]
    if now.held & q == 0:
        return [CANNOT_BE]
    found = parts_of(now.m, now.held & q)
    return [len(found)] + found


def call_kept(now, given):
    q = given[0]
    if q > every_world(now.m):
        return [NOT_RIGHT]
    if q == 0:
        return [CANNOT_BE]
    behind = revised(now.m, now.held, q)
    # A part that q touches can be kept too: it counts if q itself says as much of it.
    said = [says_of(now.m, now.held, part) for part in parts_of(now.m, now.held)]
    return [len([claim for claim in said if follows_of(behind, claim)])]


def call_keep(now, given):
    s = given[0]
    if s > every_letter(now.m):
        return [NOT_RIGHT]
    return [says_of(now.m, now.held, s)]


def call_says(now, given):
    s = given[0]
    if s > every_letter(now.m):
        return [NOT_RIGHT]
    return [1 if says_of(now.m, now.held, s) != every_world(now.m) else 0]


def call_follows(now, given):
    q = given[0]
    if q > every_world(now.m):
        return [NOT_RIGHT]
    return [1 if follows_of(now.held, q) else 0]


def call_by(now, given):
    q = given[0]
    if q > every_world(now.m):
        return [NOT_RIGHT]
    if not follows_of(now.held, q):
        return [CANNOT_BE]
    found = touched_parts(now.m, now.held, q)
    return [len(found)] + found


def call_look(now, given):
    return [now.held]


def call_state(now, given):
    return [now.m, len(parts_of(now.m, now.held))]


# A call's number is its place here.
STEPS = (
    call_begin,
    call_claim,
    call_learn,
    call_revise,
    call_splits,
    call_parts,
    call_byletter,
    call_part,
    call_ways,
    call_same,
    call_lone,
    call_free,
    call_touched,
    call_would,
    call_partsof,
    call_kept,
    call_keep,
    call_says,
    call_follows,
    call_by,
    call_look,
    call_state,
)


def answer(now, number, given):
    """What one call answers, as a list of its own."""
    if number != BEGIN and now.m == 0:
        return [BEFORE_BEGIN]
    step = STEPS[number]
    return step(now, given)


def answers(calls):
    """The answers of all calls on a new object, each with how many numbers it has before it."""
    now = Holding()
    told = []
    place = 0
    while place < len(calls):
        number = calls[place]
        behind = place + 1 + WIDTHS[number]
        numbers = answer(now, number, calls[place + 1:behind])
        told.append(len(numbers))
        told.extend(numbers)
        place = behind
    return told

"""Point 4: what holds over all calls, told by the program's own answers."""

import random
import unittest

from tests.helper import CHANGING, NAMES, TOP, any_call, letters_of, made_of_parts, run


def claims():
    """All claims of up to three letters, and many of four, among them such as fall apart."""
    found = [(m, p) for m in (1, 2, 3) for p in range(1, 1 << (1 << m))]
    found += [(4, p) for p in range(1, 65536, 331)]
    chance = random.Random(5)
    found += [(4, made_of_parts(chance)) for turn in range(150)]
    a, b, c, d, always = letters_of(4)
    found += [(4, p) for p in (always, a & b & c & d, a, b & (always ^ d), always ^ a ^ d, a ^ b ^ c ^ d, 32769)]
    return found


def pairs_of_claims():
    """A claim that is held and another beside it: with it, against it, or in few letters."""
    found = []
    chance = random.Random(6)
    for m, p in claims():
        always = (1 << (1 << m)) - 1
        letter = letters_of(m)[chance.randrange(m)]
        other = made_of_parts(chance) & always
        for q in (letter, always ^ letter, other, always ^ p, other & (always ^ p), other | p, always):
            if q != 0:
                found.append((m, p, q))
    return found


def parts(m, p):
    """Each part as its letters, what's held says of them, and in how many ways it can be."""
    count = run(("begin", m, p), ("parts",))[1][0]
    return [tuple(told) for told in run(("begin", m, p), *[("part", k) for k in range(count)])[1:]]


def goes_with(m, p, s):
    """Whether each way that the letters of s can be goes with each way that the others can."""
    worlds = [world for world in range(1 << m) if p >> world & 1]
    others = ((1 << m) - 1) ^ s
    return all(p >> (one & s | two & others) & 1 for one in worlds for two in worlds)


class Apart(unittest.TestCase):
    def test_every_way_goes_with_every_way(self):
        for m, p in claims():
            found = run(("begin", m, p), *[("splits", s) for s in range(1 << m)])[1:]
            self.assertEqual(found, [[1 if goes_with(m, p, s) else 0] for s in range(1 << m)], (m, p))

    def test_just_by_whole_parts(self):
        for m, p in claims():
            sets = run(("begin", m, p), ("parts",))[1][1:]
            found = run(("begin", m, p), *[("splits", s) for s in range(1 << m)])[1:]
            whole = [[1 if all(s & part in (0, part) for part in sets) else 0] for s in range(1 << m)]
            self.assertEqual(found, whole, (m, p))

    def test_each_letter_is_in_just_one_part_and_parts_rise(self):
        for m, p in claims():
            sets = run(("begin", m, p), ("parts",))[1][1:]
            self.assertEqual(sum(sets), (1 << m) - 1)
            self.assertEqual([letter for letter in range(m) if sum(s >> letter & 1 for s in sets) != 1], [])
            least = [s & -s for s in sets]
            self.assertEqual(least, sorted(least))

    def test_as_many_worlds_as_ways_multiplied(self):
        for m, p in claims():
            worlds, *ways = run(("begin", m, p), ("ways",))[1]
            self.assertEqual(worlds, bin(p).count("1"))
            count = 1
            for number in ways:
                count *= number
            self.assertEqual(count, worlds, (m, p))

    def test_what_is_held_is_what_it_says_of_its_parts(self):
        for m, p in claims():
            both = (1 << (1 << m)) - 1
            for part in parts(m, p):
                both &= part[1]
            self.assertEqual(both, p)


class Learnt(unittest.TestCase):
    def test_leaves_all_other_parts_as_they_were(self):
        for m, p, q in pairs_of_claims():
            if p & q:
                touched = run(("begin", m, p), ("touched", q))[1][1:]
                left = [part for part in parts(m, p) if part[0] not in touched]
                behind = parts(m, p & q)
                self.assertEqual([part for part in left if part not in behind], [], (m, p, q))
                found = run(("begin", m, p), ("learn", q), ("look",), ("parts",))
                self.assertEqual(found[1:], [[len(behind)], [p & q], [len(behind)] + [part[0] for part in behind]])


class TakenIn(unittest.TestCase):
    def test_what_is_taken_in_holds(self):
        for m, p, q in pairs_of_claims():
            found = run(("begin", m, p), ("revise", q), ("follows", q), ("look",), ("begin", m, p), ("would", q))
            self.assertEqual(found[2], [1])
            self.assertEqual(found[1], [1 if p & q else 0] + found[3])
            self.assertEqual(found[5], found[3])
            self.assertNotEqual(found[3], [0])

    def test_parts_that_it_does_not_touch_are_still_held(self):
        for m, p, q in pairs_of_claims():
            touched = run(("begin", m, p), ("touched", q))[1][1:]
            left = [part[1] for part in parts(m, p) if part[0] not in touched]
            found = run(("begin", m, p), ("kept", q), ("revise", q), *[("follows", said) for said in left])
            self.assertEqual(found[3:], [[1]] * len(left), (m, p, q))
            self.assertGreaterEqual(found[1][0], len(left))

    def test_would_kept_and_partsof_agree_with_revise_and_learn(self):
        for m, p, q in pairs_of_claims():
            said = [part[1] for part in parts(m, p)]
            found = run(("begin", m, p), ("would", q), ("kept", q), ("partsof", q), ("look",), ("revise", q),
                        *[("follows", one) for one in said])
            self.assertEqual(found[4], [p])
            self.assertEqual(found[5][1:], found[1])
            self.assertEqual(found[2], [found[6:].count([1])])
            learnt = run(("begin", m, p), ("learn", q), ("parts",))
            self.assertEqual(found[3][:1], learnt[1])
            if p & q:
                self.assertEqual(found[3], learnt[2])


class Following(unittest.TestCase):
    def test_follows_of_the_parts_alone_that_it_touches(self):
        met = 0
        for m, p, q in pairs_of_claims():
            follows, by, touched = run(("begin", m, p), ("follows", q), ("by", q), ("touched", q))[1:]
            if follows == [0]:
                self.assertNotEqual(p & q, p)
                self.assertEqual(by, [-33])
            else:
                met += 1
                self.assertEqual(by, touched)
                both = (1 << (1 << m)) - 1
                for part in parts(m, p):
                    if part[0] in by[1:]:
                        both &= part[1]
                self.assertEqual(both & q, both, (m, p, q))
        self.assertGreater(met, 500)

    def test_keep_follows_and_says_tells_whether_it_is_more_than_always_so(self):
        for m, p in claims():
            always = (1 << (1 << m)) - 1
            for s in range(1 << m):
                said, says = run(("begin", m, p), ("keep", s), ("says", s))[1:]
                follows, by = run(("begin", m, p), ("follows", said[0]), ("touched", said[0]))[1:]
                self.assertEqual(follows, [1])
                self.assertEqual(says, [0 if said[0] == always else 1])
                self.assertEqual([part for part in by[1:] if part & s == 0], [])


class Refused(unittest.TestCase):
    def lists(self):
        chance = random.Random(7)
        for turn in range(200):
            yield [any_call(chance, (0, 1, 2, 3, 4, 4, 4, TOP)) for place in range(40)]

    def test_what_is_refused_may_as_well_be_left_out(self):
        met = set()
        for calls in self.lists():
            found = run(*calls)
            taken = [place for place, one in enumerate(found) if one[0] >= 0]
            met.update((calls[place][0], one[0]) for place, one in enumerate(found) if one[0] < 0)
            if taken:
                self.assertEqual(run(*[calls[place] for place in taken]), [found[place] for place in taken])
        due = {(name, -11) for name in NAMES if name != "begin"} | {("same", -2), ("part", -33)}
        due |= {(name, -22) for name in ("splits", "touched", "keep", "says", "follows")}
        due |= {(name, number) for name in ("begin", "claim", "learn", "revise", "would", "partsof", "kept", "by")
                for number in (-22, -33)}
        self.assertEqual(met, due)

    def test_what_is_only_asked_may_as_well_be_left_out(self):
        for calls in self.lists():
            found = run(*calls)
            left = [place for place, call in enumerate(calls) if call[0] in ("begin",) + CHANGING]
            if left:
                self.assertEqual(run(*[calls[place] for place in left]), [found[place] for place in left])

    def test_refusals_are_one_number(self):
        for calls in self.lists():
            for one in run(*calls):
                self.assertTrue(one[0] >= 0 and min(one) >= 0 or len(one) == 1 and one[0] in (-2, -11, -22, -33))

    def test_each_refusal_leaves_every_answer_as_it_was(self):
        refused = [("begin", 0, 1), ("begin", 5, 1), ("begin", 3, 256), ("begin", 2, 0), ("claim", 256), ("claim", 0),
                   ("learn", 256), ("learn", 111), ("revise", 256), ("revise", 0), ("splits", 8), ("part", 2),
                   ("same", 3, 0), ("same", 0, 3), ("touched", 256), ("would", 256), ("would", 0), ("partsof", 256),
                   ("partsof", 111), ("kept", 256), ("kept", 0), ("keep", 8), ("says", 8), ("follows", 256),
                   ("by", 256), ("by", 1), ("by", 0)]
        numbers = [-22, -22, -22, -33, -22, -33, -22, -33, -22, -33, -22, -33, -2, -2, -22, -22, -33, -22, -33, -22,
                   -33, -22, -22, -22, -22, -33, -33]
        asked = [("look",), ("state",), ("parts",), ("byletter",), ("part", 0), ("part", 1), ("ways",), ("same", 0, 1),
                 ("lone",), ("free",), ("touched", 15), ("would", 15), ("partsof", 128), ("kept", 15), ("keep", 3),
                 ("says", 3), ("follows", 240), ("by", 240), ("splits", 3), ("revise", 15)]
        plain = run(("begin", 3, 144), *asked)[1:]
        for call, number in zip(refused, numbers, strict=True):
            found = run(("begin", 3, 144), call, *asked)
            self.assertEqual(found[1:], [[number]] + plain, call)


if __name__ == "__main__":
    unittest.main()

"""The answers beside those that are reckoned the second way, over many claims and many lists."""

import random
import unittest

from tests.helper import TOP, Model, run


def questions(m):
    """Every question of point 2, with all that it may be asked and one beyond."""
    found = [("parts",), ("byletter",), ("ways",), ("lone",)]
    found += [("part", k) for k in range(m + 1)]
    found += [("splits", s) for s in range((1 << m) + 1)]
    return found


def pairs(m):
    return [("same", i, j) for i in range(m + 1) for j in range(m + 1)]


class Beside(unittest.TestCase):
    def check(self, calls):
        model = Model()
        expected = [model.call(*call) for call in calls]
        self.assertEqual(run(*calls), expected, calls)

    def test_every_claim_of_up_to_three_letters(self):
        for m in (1, 2, 3):
            for p in range((1 << (1 << m)) + 1):
                self.check([("begin", m, p)] + questions(m))
                self.check([("begin", m, p)] + pairs(m))

    def test_claims_of_four_letters(self):
        for p in range(1, 65536, 61):
            self.check([("begin", 4, p)] + questions(4))
            self.check([("begin", 4, p)] + pairs(4))

    def test_claims_of_four_letters_that_fall_apart(self):
        chance = random.Random(4)
        for turn in range(300):
            p = self.made_of_parts(chance)
            self.check([("begin", 4, p)] + questions(4))
            q = self.made_of_parts(chance)
            self.check([("begin", 4, p), ("revise", q), ("parts",), ("begin", 4, p), ("learn", q), ("parts",)])

    def made_of_parts(self, chance):
        """A claim that is so where one claim of two letters is, and another of the two others."""
        order = chance.sample(range(4), 4)
        one = chance.randrange(1, 16)
        two = chance.randrange(1, 16)
        made = 0
        for world in range(16):
            bits = [world >> letter & 1 for letter in order]
            if one >> (bits[0] + 2 * bits[1]) & 1 and two >> (bits[2] + 2 * bits[3]) & 1:
                made |= 1 << world
        return made

    def test_every_two_claims_of_up_to_two_letters(self):
        for m in (1, 2):
            for p in range(1, 1 << (1 << m)):
                for q in range((1 << (1 << m)) + 1):
                    for name in ("claim", "learn", "revise"):
                        self.check([("begin", m, p), (name, q), ("parts",), ("claim", 1)])

    def test_two_claims_of_three_letters(self):
        for p in range(1, 256):
            for q in range(p % 7, 258, 7):
                self.check([("begin", 3, p), ("revise", q), ("ways",), ("claim", p), ("learn", q), ("claim", 1)])

    def test_lists_of_forty_calls(self):
        chance = random.Random(1)
        for turn in range(300):
            self.check([self.any_call(chance) for place in range(40)])

    def any_call(self, chance):
        name = chance.choice(("begin", "claim", "claim", "learn", "revise", "revise", "splits", "parts", "byletter",
                              "part", "ways", "same", "lone"))
        claim = chance.choice((0, 1, chance.randrange(4), chance.randrange(16), chance.randrange(256),
                               chance.randrange(65536), chance.randrange(65530, 65540), TOP))
        small = chance.choice((0, 1, 2, 3, 4, 5, TOP))
        if name == "begin":
            return (name, small, claim)
        if name in ("claim", "learn", "revise"):
            return (name, claim)
        if name == "splits":
            return (name, chance.choice((chance.randrange(18), TOP)))
        if name == "part":
            return (name, small)
        if name == "same":
            return (name, small, chance.randrange(5))
        return (name,)


if __name__ == "__main__":
    unittest.main()

"""The answers beside those that are reckoned the second way, over many claims and many lists."""

import random
import unittest

from tests.helper import CHANGING, NAMES, OF_CLAIM, TOP, Model, any_call, made_of_parts, run


def questions(m):
    """Every question that is asked of what's held alone, and of parts and letters, with one beyond."""
    found = [("parts",), ("byletter",), ("ways",), ("lone",), ("free",), ("look",), ("state",)]
    found += [("part", k) for k in range(m + 1)]
    found += [("splits", s) for s in range((1 << m) + 1)]
    return found


def more_questions(m):
    return [(name, s) for name in ("keep", "says") for s in range((1 << m) + 1)]


def pairs(m):
    return [("same", i, j) for i in range(m + 1) for j in range(m + 1)]


def asked_of(q):
    return [(name, q) for name in OF_CLAIM] + [("look",)]


class Beside(unittest.TestCase):
    def check(self, calls):
        self.assertLessEqual(len(calls), 40)
        model = Model()
        expected = [model.call(*call) for call in calls]
        self.assertEqual(run(*calls), expected, calls)

    def test_every_claim_of_up_to_three_letters(self):
        for m in (1, 2, 3):
            for p in range((1 << (1 << m)) + 1):
                self.check([("begin", m, p)] + questions(m))
                self.check([("begin", m, p)] + more_questions(m))
                self.check([("begin", m, p)] + pairs(m))

    def test_claims_of_four_letters(self):
        for p in range(1, 65536, 97):
            self.check([("begin", 4, p)] + questions(4))
            self.check([("begin", 4, p)] + more_questions(4))
            self.check([("begin", 4, p)] + pairs(4))

    def test_claims_of_four_letters_that_fall_apart(self):
        chance = random.Random(4)
        for turn in range(200):
            p = made_of_parts(chance)
            self.check([("begin", 4, p)] + questions(4))
            self.check([("begin", 4, p)] + more_questions(4))
            q = made_of_parts(chance)
            self.check([("begin", 4, p)] + asked_of(q) + asked_of(q | p) + asked_of(q & (65535 ^ p)))
            self.check([("begin", 4, p), ("revise", q), ("parts",), ("begin", 4, p), ("learn", q), ("parts",)])

    def test_every_two_claims_of_up_to_two_letters(self):
        for m in (1, 2):
            for p in range(1, 1 << (1 << m)):
                for q in range((1 << (1 << m)) + 1):
                    for name in CHANGING:
                        self.check([("begin", m, p), (name, q), ("parts",), ("claim", 1)])
                    self.check([("begin", m, p)] + asked_of(q))

    def test_two_claims_of_three_letters(self):
        for p in range(1, 256):
            for q in range(p % 7, 258, 7):
                self.check([("begin", 3, p), ("revise", q), ("ways",), ("claim", p), ("learn", q), ("claim", 1)])
            for q in range(p % 11, 258, 11):
                self.check([("begin", 3, p)] + asked_of(q) + asked_of(q | p))

    def test_lists_of_forty_calls_in_which_all_are_mixed(self):
        chance = random.Random(1)
        for turn in range(400):
            self.check([any_call(chance, (0, 1, 2, 3, 4, 5, TOP)) for place in range(40)])

    def test_lists_of_forty_calls_on_four_letters(self):
        chance = random.Random(2)
        for turn in range(200):
            self.check([("begin", 4, made_of_parts(chance))] + [any_call(chance, (4,)) for place in range(39)])

    def test_all_calls_are_among_those_that_are_mixed(self):
        chance = random.Random(3)
        met = {any_call(chance, (4,))[0] for turn in range(2000)}
        self.assertEqual(met, set(NAMES))


if __name__ == "__main__":
    unittest.main()

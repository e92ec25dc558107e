"""Point 3: touched, would, partsof, kept, keep, says, follows, by, look, state; and free, of point 2."""

import unittest

from tests.helper import GREATEST, OF_CLAIM, TOP, last, letters_of, run


def answer(m, p, *call):
    """What one call answers behind a begin; what's held must be as it was behind it."""
    found = run(("begin", m, p), call, ("look",), ("state",), ("claim", 1))
    if found[2:] != [[p], [m, last(("begin", m, p), ("parts",))[0]], [p]]:
        raise AssertionError((m, p, call, found))
    return found[1]


class Free(unittest.TestCase):
    def test_one_letter(self):
        self.assertEqual(answer(1, 3, "free"), [1, 0])
        self.assertEqual(answer(1, 1, "free"), [0])
        self.assertEqual(answer(1, 2, "free"), [0])

    def test_always_so(self):
        for m, always in GREATEST.items():
            self.assertEqual(answer(m, always, "free"), [m] + list(range(m)))

    def test_one_world_alone(self):
        for m in GREATEST:
            for world in range(1 << m):
                self.assertEqual(answer(m, 1 << world, "free"), [0])

    def test_some_letters_rising(self):
        a, b, c, d, always = letters_of(4)
        self.assertEqual(answer(4, b, "free"), [3, 0, 2, 3])
        self.assertEqual(answer(4, always ^ d, "free"), [3, 0, 1, 2])
        self.assertEqual(answer(4, b ^ d, "free"), [2, 0, 2])
        self.assertEqual(answer(4, a | b | d, "free"), [1, 2])

    def test_a_settled_letter_is_alone_but_not_free(self):
        a, b, c, always = letters_of(3)
        self.assertEqual(run(("begin", 3, a & (b | c)), ("lone",), ("free",)), [[0], [1, 0], [0]])
        self.assertEqual(run(("begin", 3, a & b), ("lone",), ("free",)), [[0], [3, 0, 1, 2], [1, 2]])

    def test_hangs_together_whole(self):
        a, b, c, d, always = letters_of(4)
        for held in (a ^ b ^ c ^ d, a | b | c | d, 32769):
            self.assertEqual(answer(4, held, "free"), [0])


class Touched(unittest.TestCase):
    def test_no_part(self):
        for m, always in GREATEST.items():
            self.assertEqual(answer(m, 1, "touched", always), [0])
            self.assertEqual(answer(m, 1, "touched", 0), [0])

    def test_one_letter(self):
        for held in (1, 2, 3):
            self.assertEqual(answer(1, held, "touched", 1), [1, 1])
            self.assertEqual(answer(1, held, "touched", 2), [1, 1])

    def test_a_part_is_touched_by_any_letter_of_it(self):
        a, b, c, always = letters_of(3)
        held = (always ^ a ^ b) & c
        for q in (a, b, always ^ b, a ^ b, a & b):
            self.assertEqual(answer(3, held, "touched", q), [1, 3])
        self.assertEqual(answer(3, held, "touched", c), [1, 4])
        self.assertEqual(answer(3, held, "touched", a | c), [2, 3, 4])

    def test_by_their_least_letters(self):
        a, b, c, d, always = letters_of(4)
        held = (a | d) & (always ^ b)
        self.assertEqual(answer(4, held, "touched", c ^ d), [2, 9, 4])
        self.assertEqual(answer(4, held, "touched", b & c), [2, 2, 4])
        self.assertEqual(answer(4, held, "touched", d | b | c), [3, 9, 2, 4])

    def test_a_part_of_a_letter_on_which_it_does_not_depend(self):
        a, b, always = letters_of(2)
        self.assertEqual(answer(2, a, "touched", b), [1, 2])

    def test_what_q_says_and_not_whether_it_goes_against(self):
        a, b, always = letters_of(2)
        for q in (a, always ^ a):
            self.assertEqual(answer(2, a & b, "touched", q), [1, 1])

    def test_hangs_together_whole(self):
        for q in letters_of(4)[:4]:
            self.assertEqual(answer(4, 27030, "touched", q), [1, 15])


class Would(unittest.TestCase):
    def test_both_can_be(self):
        for m, p, q in ((1, 3, 2), (2, 14, 11), (3, 254, 23), (4, 27030, 65280)):
            self.assertEqual(answer(m, p, "would", q), [p & q])

    def test_against(self):
        self.assertEqual(answer(1, 2, "would", 1), [1])
        a, b, c, always = letters_of(3)
        alike = always ^ a ^ b
        self.assertEqual(answer(3, alike & c, "would", always ^ c), [alike & (always ^ c)])
        self.assertEqual(answer(3, alike & c, "would", a ^ b), [(a ^ b) & c])

    def test_against_two_parts_at_once(self):
        a, b, c, d, always = letters_of(4)
        alike = always ^ c ^ d
        for q in ((always ^ a) & (always ^ b), always ^ (a & b), a ^ b):
            self.assertEqual(answer(4, a & b & alike, "would", q), [q & alike])

    def test_always_so(self):
        for m, p in ((1, 2), (2, 9), (3, 144), (4, 27030)):
            self.assertEqual(answer(m, p, "would", GREATEST[m]), [p])

    def test_revise_does_what_would_tells(self):
        for p in range(1, 256):
            for q in range(1 + p % 3, 256, 5):
                found = run(("begin", 3, p), ("would", q), ("look",), ("revise", q), ("look",))
                self.assertEqual(found[2], [p])
                self.assertEqual(found[3], [1 if p & q else 0] + found[1])
                self.assertEqual(found[4], found[1])


class Partsof(unittest.TestCase):
    def test_one_letter(self):
        self.assertEqual(answer(1, 3, "partsof", 1), [1, 1])
        self.assertEqual(answer(1, 2, "partsof", 3), [1, 1])

    def test_letters_come_together(self):
        a, b, c, d, always = letters_of(4)
        self.assertEqual(answer(4, always, "partsof", a | c), [3, 5, 2, 8])
        self.assertEqual(answer(4, (always ^ a ^ c) & (b ^ d), "partsof", a | b), [1, 15])

    def test_letters_come_apart(self):
        a, b, c, d, always = letters_of(4)
        self.assertEqual(answer(4, (always ^ a ^ c) & (b ^ d), "partsof", a), [3, 1, 10, 4])

    def test_always_so(self):
        self.assertEqual(answer(3, 144, "partsof", 255), [2, 3, 4])

    def test_never_so_beside_what_is_held(self):
        for m, p, q in ((1, 2, 1), (2, 9, 6), (3, 144, 111), (4, 1, 65534), (4, 65535, 0)):
            self.assertEqual(answer(m, p, "partsof", q), [-33])

    def test_learn_does_what_partsof_tells(self):
        for p in range(1, 256):
            for q in range(p % 5, 258, 5):
                found = run(("begin", 3, p), ("partsof", q), ("look",), ("learn", q), ("parts",))
                self.assertEqual(found[2], [p])
                self.assertEqual(found[3], found[1][:1])
                if found[1][0] > 0:
                    self.assertEqual(found[4], found[1])


class Kept(unittest.TestCase):
    def test_all_where_both_can_be(self):
        a, b, c, d, always = letters_of(4)
        held = a & (b | c)
        self.assertEqual(answer(4, held, "kept", b), [3])
        self.assertEqual(answer(4, held, "kept", always), [3])
        self.assertEqual(answer(4, held, "kept", held), [3])
        self.assertEqual(answer(4, 27030, "kept", a), [1])

    def test_one_letter(self):
        self.assertEqual(answer(1, 2, "kept", 1), [0])
        self.assertEqual(answer(1, 2, "kept", 2), [1])
        self.assertEqual(answer(1, 3, "kept", 1), [1])

    def test_the_parts_that_are_not_touched(self):
        a, b, c, d, always = letters_of(4)
        self.assertEqual(answer(4, a & b & c & d, "kept", always ^ a), [3])
        self.assertEqual(answer(4, a & b & (always ^ c ^ d), "kept", c ^ d), [2])

    def test_against_two_parts_at_once(self):
        a, b, c, d, always = letters_of(4)
        alike = always ^ c ^ d
        self.assertEqual(answer(4, a & b & alike, "kept", (always ^ a) & (always ^ b)), [1])
        self.assertEqual(answer(4, a & b & alike, "kept", (always ^ a) & (c ^ d)), [1])

    def test_a_touched_part_of_which_q_says_as_much(self):
        a, b, c, always = letters_of(3)
        self.assertEqual(answer(3, a & b & c, "kept", (always ^ a) & b), [2])
        self.assertEqual(answer(3, a & b & c, "kept", (always ^ a) & (b | c)), [0])

    def test_a_part_of_a_letter_on_which_it_does_not_depend_is_always_kept(self):
        a, b, always = letters_of(2)
        self.assertEqual(answer(2, a, "kept", (always ^ a) & b), [1])
        self.assertEqual(answer(2, a, "kept", always ^ a), [1])

    def test_hangs_together_whole(self):
        self.assertEqual(answer(4, 27030, "kept", 65535 ^ 27030), [0])

    def test_parts_as_they_are_now_and_not_those_behind(self):
        a, b, c, d, always = letters_of(4)
        self.assertEqual(answer(4, 32769, "kept", 1), [1])
        self.assertEqual(answer(4, a & b & c & d, "kept", a ^ b ^ c ^ d), [0])

    def test_revise_keeps_what_kept_tells(self):
        for p in range(1, 256):
            count = last(("begin", 3, p), ("parts",))[0]
            said = [one[1] for one in run(("begin", 3, p), *[("part", k) for k in range(count)])[1:]]
            for q in range(1 + p % 7, 256, 7):
                found = run(("begin", 3, p), ("kept", q), ("look",), ("revise", q), *[("follows", s) for s in said])
                self.assertEqual(found[2], [p])
                self.assertEqual(found[1], [found[4:].count([1])])


class Keep(unittest.TestCase):
    def test_no_letters_and_all(self):
        for m, p in ((1, 2), (2, 9), (3, 144), (4, 27030)):
            self.assertEqual(answer(m, p, "keep", 0), [GREATEST[m]])
            self.assertEqual(answer(m, p, "keep", (1 << m) - 1), [p])

    def test_some_letters(self):
        a, b, c, always = letters_of(3)
        held = a & (b | c)
        for s, said in ((1, a), (2, always), (4, always), (3, a), (5, a), (6, b | c)):
            self.assertEqual(answer(3, held, "keep", s), [said])

    def test_a_set_that_goes_across_parts(self):
        a, b, c, d, always = letters_of(4)
        held = (always ^ a ^ c) & (always ^ b) & d
        self.assertEqual(answer(4, held, "keep", 7), [(always ^ a ^ c) & (always ^ b)])
        self.assertEqual(answer(4, held, "keep", 11), [(always ^ b) & d])

    def test_of_one_world(self):
        a, b, always = letters_of(2)
        self.assertEqual(answer(2, 2, "keep", 1), [a])
        self.assertEqual(answer(2, 2, "keep", 2), [always ^ b])


class Says(unittest.TestCase):
    def test_of_no_letters_nothing_is_said(self):
        for m in GREATEST:
            for p in (1, 2, 3):
                self.assertEqual(answer(m, p, "says", 0), [0])

    def test_always_so_says_nothing(self):
        for m, always in GREATEST.items():
            for s in range(1 << m):
                self.assertEqual(answer(m, always, "says", s), [0])

    def test_some_letters(self):
        a, b, c, always = letters_of(3)
        for s, expected in ((1, 1), (2, 0), (4, 0), (3, 1), (5, 1), (6, 1), (7, 1)):
            self.assertEqual(answer(3, a & (b | c), "says", s), [expected])

    def test_letters_that_are_alike(self):
        self.assertEqual([answer(2, 9, "says", s) for s in range(4)], [[0], [0], [0], [1]])

    def test_one_letter(self):
        self.assertEqual([answer(1, p, "says", 1) for p in (1, 2, 3)], [[1], [1], [0]])

    def test_hangs_together_whole_and_says_nothing_of_fewer(self):
        for s in range(16):
            self.assertEqual(answer(4, 27030, "says", s), [1 if s == 15 else 0])


class Follows(unittest.TestCase):
    def test_itself_and_what_is_always_so(self):
        for m, p in ((1, 2), (2, 9), (3, 144), (4, 27030)):
            self.assertEqual(answer(m, p, "follows", p), [1])
            self.assertEqual(answer(m, p, "follows", GREATEST[m]), [1])

    def test_never_so_does_not_follow(self):
        for m in GREATEST:
            self.assertEqual(answer(m, 1, "follows", 0), [0])

    def test_what_is_said_less_follows_and_more_does_not(self):
        a, b, c, always = letters_of(3)
        self.assertEqual(answer(3, a & b, "follows", a), [1])
        self.assertEqual(answer(3, a & b, "follows", b | c), [1])
        self.assertEqual(answer(3, a & b, "follows", c), [0])
        self.assertEqual(answer(3, a & b, "follows", a & b & c), [0])
        self.assertEqual(answer(3, a & b, "follows", always ^ a), [0])


class By(unittest.TestCase):
    def test_the_parts_that_it_touches(self):
        a, b, c, d, always = letters_of(4)
        held = (always ^ a ^ c) & (always ^ b) & d
        self.assertEqual(answer(4, held, "by", d), [1, 8])
        self.assertEqual(answer(4, held, "by", always ^ (a & b)), [2, 5, 2])
        self.assertEqual(answer(4, held, "by", always ^ (a & (always ^ c))), [1, 5])
        self.assertEqual(answer(4, held, "by", held), [3, 5, 2, 8])

    def test_always_so_follows_of_no_part(self):
        for m, p in ((1, 2), (2, 9), (3, 144), (4, 27030)):
            self.assertEqual(answer(m, p, "by", GREATEST[m]), [0])

    def test_more_parts_than_were_needed(self):
        a, b, always = letters_of(2)
        self.assertEqual(answer(2, a & b, "by", a | b), [2, 1, 2])

    def test_what_does_not_follow(self):
        a, b, c, always = letters_of(3)
        for q in (0, c, always ^ a, a & b & c, a ^ b):
            self.assertEqual(answer(3, a & b, "by", q), [-33])
        for m in GREATEST:
            self.assertEqual(answer(m, 1, "by", 2), [-33])


class LookAndState(unittest.TestCase):
    def test_behind_each_call_that_changes(self):
        a, b, c, always = letters_of(3)
        alike = always ^ a ^ b
        asked = (("look",), ("state",))
        found = run(("begin", 3, always), *asked, ("claim", alike), *asked, ("learn", c), *asked,
                    ("revise", a ^ b), *asked, ("begin", 1, 2), *asked)
        self.assertEqual(found, [[0], [always], [3, 3], [always], [alike], [3, 2], [2], [alike & c], [3, 2],
                                 [0, (a ^ b) & c], [(a ^ b) & c], [3, 2], [0], [2], [1, 1]])

    def test_corners(self):
        for m, p, count in ((1, 1, 1), (1, 3, 1), (2, 9, 1), (2, 4, 2), (3, 144, 2), (4, 65535, 4), (4, 27030, 1)):
            self.assertEqual(run(("begin", m, p), ("look",), ("state",)), [[0], [p], [m, count]])


class Refusals(unittest.TestCase):
    def test_no_claim(self):
        for m, greatest in GREATEST.items():
            for name in OF_CLAIM:
                self.assertNotEqual(answer(m, greatest, name, greatest), [-22])
                for q in (greatest + 1, 65536, TOP - 1, TOP):
                    self.assertEqual(answer(m, 2, name, q), [-22])

    def test_no_claim_is_refused_ahead_of_what_cannot_be(self):
        # Neither beside what is held nor following of it, as far as its worlds are ones that there are.
        for m, greatest in GREATEST.items():
            for name in OF_CLAIM:
                self.assertEqual(answer(m, 2, name, greatest + 1), [-22])
                self.assertEqual(answer(m, 2, name, greatest + 2), [-22])
                self.assertEqual(answer(m, 2, name, greatest + 3), [-22])

    def test_no_set_of_letters(self):
        for m in GREATEST:
            for name in ("keep", "says"):
                self.assertNotEqual(answer(m, 2, name, (1 << m) - 1), [-22])
                for s in (1 << m, (1 << m) + 1, 16, TOP - 1, TOP):
                    self.assertEqual(answer(m, 2, name, s), [-22])

    def test_never_so(self):
        for m in GREATEST:
            for name, expected in (("would", -33), ("kept", -33), ("partsof", -33), ("by", -33), ("touched", 0),
                                   ("follows", 0)):
                self.assertEqual(answer(m, 2, name, 0), [expected])

    def test_would_and_kept_are_not_refused_where_both_cannot_be(self):
        for m, greatest in GREATEST.items():
            self.assertEqual(answer(m, 2, "would", 1), [1])
            self.assertEqual(answer(m, 2, "kept", 1), [m - 1])


if __name__ == "__main__":
    unittest.main()

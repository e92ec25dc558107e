"""Point 1: begin, claim, learn, revise."""

import unittest

from tests.helper import GREATEST, TOP, last, letters_of, run


def held_behind(*calls):
    """The claim that is held behind these calls: a claim answers what was."""
    return last(*calls, ("claim", 1))[0]


class Begin(unittest.TestCase):
    def test_each_number_of_letters_is_taken(self):
        for m, p in ((1, 2), (2, 9), (3, 144), (4, 27030)):
            self.assertEqual(run(("begin", m, p), ("claim", 1)), [[0], [p]])

    def test_least_and_greatest_claim_are_taken(self):
        for m, greatest in GREATEST.items():
            self.assertEqual(run(("begin", m, 1), ("claim", greatest)), [[0], [1]])
            self.assertEqual(run(("begin", m, greatest), ("claim", 1)), [[0], [greatest]])

    def test_m_that_is_not_right(self):
        for m in (0, 5, 6, 32, 64, TOP - 1, TOP):
            self.assertEqual(run(("begin", m, 1)), [[-22]])

    def test_p_that_is_no_claim(self):
        for m, greatest in GREATEST.items():
            for p in (greatest + 1, 65536, TOP - 1, TOP):
                self.assertEqual(run(("begin", m, p)), [[-22]])

    def test_never_so(self):
        for m in GREATEST:
            self.assertEqual(run(("begin", m, 0)), [[-33]])

    def test_m_is_refused_ahead_of_never_so(self):
        for m in (0, 5, TOP):
            self.assertEqual(run(("begin", m, 0)), [[-22]])

    def test_refused_begin_leaves_nothing(self):
        for refused in (("begin", 0, 1), ("begin", 5, 1), ("begin", 2, 16), ("begin", 2, 0)):
            self.assertEqual(run(refused, ("parts",), ("claim", 1))[1:], [[-11], [-11]])

    def test_refused_begin_then_one_that_is_taken(self):
        self.assertEqual(run(("begin", 2, 16), ("begin", 2, 9), ("parts",)), [[-22], [0], [1, 3]])

    def test_second_begin_taken(self):
        answers = run(("begin", 2, 9), ("begin", 4, 65535), ("parts",), ("byletter",), ("begin", 1, 2), ("parts",),
                      ("claim", 4), ("claim", 1))
        self.assertEqual(answers, [[0], [0], [4, 1, 2, 4, 8], [4, 0, 1, 2, 3], [0], [1, 1], [-22], [2]])

    def test_second_begin_refused_changes_nothing(self):
        for refused, number in ((("begin", 0, 1), -22), (("begin", 5, 1), -22), (("begin", 4, 65536), -22),
                                (("begin", 1, 4), -22), (("begin", 4, 0), -33), (("begin", 1, 0), -33)):
            answers = run(("begin", 3, 144), refused, ("parts",), ("byletter",), ("claim", 255), ("claim", 256))
            self.assertEqual(answers, [[0], [number], [2, 3, 4], [3, 0, 0, 2], [144], [-22]])


class Claim(unittest.TestCase):
    def test_answers_what_was(self):
        for m, one, two in ((1, 1, 3), (2, 9, 14), (3, 144, 23), (4, 27030, 40000)):
            answers = run(("begin", m, one), ("claim", two), ("claim", one), ("claim", one), ("claim", two))
            self.assertEqual(answers, [[0], [one], [two], [one], [one]])

    def test_what_is_claimed_is_held(self):
        self.assertEqual(run(("begin", 2, 9), ("claim", 15), ("parts",)), [[0], [9], [2, 1, 2]])

    def test_may_go_against_what_is_held(self):
        self.assertEqual(run(("begin", 2, 9), ("claim", 6), ("ways",)), [[0], [9], [2, 2]])

    def test_no_claim(self):
        for m, greatest in GREATEST.items():
            for p in (greatest + 1, 65536, TOP - 1, TOP):
                self.assertEqual(run(("begin", m, 2), ("claim", p), ("claim", 1)), [[0], [-22], [2]])

    def test_never_so(self):
        for m in GREATEST:
            self.assertEqual(run(("begin", m, 2), ("claim", 0), ("claim", 1)), [[0], [-33], [2]])


class Learn(unittest.TestCase):
    def test_one_letter(self):
        self.assertEqual(run(("begin", 1, 3), ("learn", 2), ("claim", 1)), [[0], [1], [2]])

    def test_two_letters(self):
        self.assertEqual(run(("begin", 2, 15), ("learn", 9), ("learn", 10), ("claim", 1)), [[0], [1], [2], [8]])

    def test_three_letters(self):
        a, b, c, always = letters_of(3)
        alike = always ^ a ^ b
        self.assertEqual(run(("begin", 3, always), ("learn", c), ("learn", alike), ("learn", a | b), ("claim", 1)),
                         [[0], [3], [2], [3], [a & b & c]])

    def test_four_letters(self):
        a, b, c, d, always = letters_of(4)
        self.assertEqual(run(("begin", 4, always), ("learn", always ^ a ^ c), ("learn", b ^ d), ("learn", a | b),
                             ("claim", 1)),
                         [[0], [3], [2], [1], [(always ^ a ^ c) & (b ^ d) & (a | b)]])

    def test_what_is_learnt_in_some_letters_leaves_other_parts(self):
        a, b, c, d, always = letters_of(4)
        held = (always ^ a ^ c) & (b ^ d)
        self.assertEqual(run(("begin", 4, held), ("part", 1), ("learn", a), ("part", 1), ("parts",)),
                         [[0], [10, b ^ d, 2], [3], [10, b ^ d, 2], [3, 1, 10, 4]])

    def test_always_so_changes_nothing(self):
        for m, p in ((1, 2), (2, 9), (3, 144), (4, 27030)):
            self.assertEqual(held_behind(("begin", m, p), ("learn", GREATEST[m])), p)

    def test_no_claim(self):
        for m, greatest in GREATEST.items():
            for q in (greatest + 1, 65536, TOP - 1, TOP):
                self.assertEqual(run(("begin", m, 2), ("learn", q), ("claim", 1)), [[0], [-22], [2]])

    def test_no_claim_is_refused_ahead_of_what_cannot_be(self):
        self.assertEqual(run(("begin", 2, 9), ("learn", 16), ("learn", 32)), [[0], [-22], [-22]])

    def test_both_could_never_be_so(self):
        for m, p, q in ((1, 2, 1), (2, 9, 6), (3, 144, 111), (4, 1, 65534)):
            self.assertEqual(run(("begin", m, p), ("learn", q), ("learn", 0), ("claim", 1)),
                             [[0], [-33], [-33], [p]])


class Revise(unittest.TestCase):
    def test_both_can_be(self):
        for m, p, q in ((1, 3, 2), (2, 14, 11), (3, 254, 23), (4, 27030, 65280)):
            self.assertEqual(run(("begin", m, p), ("revise", q), ("claim", 1)), [[0], [1, p & q], [p & q]])

    def test_one_letter_against(self):
        self.assertEqual(run(("begin", 1, 2), ("revise", 1), ("claim", 3)), [[0], [0, 1], [1]])

    def test_two_letters_leave_the_untouched_one(self):
        a, b, always = letters_of(2)
        self.assertEqual(last(("begin", 2, a & b), ("revise", always ^ a)), [0, b & (always ^ a)])
        self.assertEqual(last(("begin", 2, a & b), ("revise", always ^ b)), [0, a & (always ^ b)])

    def test_three_letters_leave_the_part_that_is_not_touched(self):
        a, b, c, always = letters_of(3)
        alike = always ^ a ^ b
        self.assertEqual(last(("begin", 3, alike & c), ("revise", always ^ c)), [0, alike & (always ^ c)])
        self.assertEqual(last(("begin", 3, alike & c), ("revise", a ^ b)), [0, (a ^ b) & c])

    def test_a_part_is_given_up_whole(self):
        a, b, c, always = letters_of(3)
        self.assertEqual(last(("begin", 3, a & (b | c)), ("revise", always ^ a)), [0, (always ^ a) & (b | c)])
        none = (always ^ b) & (always ^ c)
        self.assertEqual(last(("begin", 3, a & (b | c)), ("revise", none)), [0, none & a])

    def test_a_touched_part_that_q_does_not_go_against_is_given_up_too(self):
        a, b, c, always = letters_of(3)
        q = (always ^ a) & (b | c)
        self.assertEqual(last(("begin", 3, a & b & c), ("revise", q)), [0, q])

    def test_against_two_parts_at_once(self):
        a, b, c, d, always = letters_of(4)
        alike = always ^ c ^ d
        for q in ((always ^ a) & (always ^ b), always ^ (a & b), a ^ b):
            self.assertEqual(run(("begin", 4, a & b & alike), ("revise", q), ("claim", 1)),
                             [[0], [0, q & alike], [q & alike]])

    def test_hangs_together_whole(self):
        a, b, c, d, always = letters_of(4)
        odd = a ^ b ^ c ^ d
        self.assertEqual(last(("begin", 4, odd), ("revise", always ^ odd)), [0, always ^ odd])
        self.assertEqual(last(("begin", 4, 65534), ("revise", 1)), [0, 1])

    def test_one_world_alone(self):
        a, b, c, d, always = letters_of(4)
        self.assertEqual(last(("begin", 4, a & b & c & d), ("revise", c ^ d)), [0, a & b & (c ^ d)])

    def test_always_so(self):
        for m, p in ((1, 2), (2, 9), (3, 144), (4, 27030)):
            self.assertEqual(run(("begin", m, p), ("revise", GREATEST[m]), ("claim", 1)), [[0], [1, p], [p]])

    def test_a_part_of_a_letter_on_which_it_does_not_depend(self):
        a, b, always = letters_of(2)
        self.assertEqual(last(("begin", 2, a), ("revise", (always ^ a) & b)), [0, (always ^ a) & b])
        self.assertEqual(last(("begin", 2, a), ("revise", always ^ a)), [0, always ^ a])

    def test_no_claim(self):
        for m, greatest in GREATEST.items():
            for q in (greatest + 1, 65536, TOP - 1, TOP):
                self.assertEqual(run(("begin", m, 2), ("revise", q), ("claim", 1)), [[0], [-22], [2]])

    def test_never_so(self):
        for m in GREATEST:
            self.assertEqual(run(("begin", m, 2), ("revise", 0), ("claim", 1)), [[0], [-33], [2]])


if __name__ == "__main__":
    unittest.main()

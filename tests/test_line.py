"""The calls and the interface: one list in, one list out, and what comes before a begin."""

import unittest

from claimparts.claims import answers
from tests.helper import TOP, run, told

LATER = (("free",), ("touched", 1), ("would", 1), ("partsof", 1), ("kept", 1), ("keep", 1), ("says", 1),
         ("follows", 1), ("by", 1), ("look",), ("state",))

NOW = (("claim", 1), ("learn", 1), ("revise", 1), ("splits", 1), ("parts",), ("byletter",), ("part", 0), ("ways",),
       ("same", 0, 0), ("lone",))

# Each of these would be refused behind a begin too.
WRONG = (("claim", TOP), ("claim", 0), ("learn", TOP), ("learn", 0), ("revise", TOP), ("revise", 0),
         ("splits", TOP), ("part", TOP), ("same", TOP, TOP))


class BeforeBegin(unittest.TestCase):
    def test_each_other_call(self):
        for call in NOW + LATER:
            self.assertEqual(run(call), [[-11]])

    def test_ahead_of_every_other_refusal(self):
        for call in WRONG:
            self.assertEqual(run(call), [[-11]])

    def test_all_in_one_list_and_a_begin_behind_them(self):
        found = run(*NOW, *LATER, ("begin", 2, 9), ("parts",))
        self.assertEqual(found, [[-11]] * 21 + [[0], [1, 3]])

    def test_behind_a_refused_begin(self):
        found = run(("begin", 0, 1), *NOW, ("begin", 1, 0), *NOW)
        self.assertEqual(found, [[-22]] + [[-11]] * 10 + [[-33]] + [[-11]] * 10)


class Interface(unittest.TestCase):
    def test_the_numbers_as_they_are_told(self):
        self.assertEqual(answers([0, 3, 144, 5, 6, 7, 0, 7, 2, 8, 9, 0, 1, 9, 3, 0, 10, 4, 3, 4, 8]),
                         [1, 0, 3, 2, 3, 4, 4, 3, 0, 0, 2, 3, 3, 153, 2, 1, -33, 3, 2, 2, 1, 1, 1, 1, -2, 2, 1, 2,
                          1, 1, 1, -22])
        self.assertEqual(answers([0, 2, 15, 1, 14, 2, 11, 3, 5, 10]),
                         [1, 0, 1, 15, 1, 2, 2, 0, 5, 3, 2, 0, 1])

    def test_one_call(self):
        self.assertEqual(answers([5]), [1, -11])
        self.assertEqual(answers([0, 1, 1]), [1, 0])

    def test_forty_calls_and_the_list_is_the_same_afterwards(self):
        calls = told([("begin", 4, 65535)] + [("learn", 65534), ("revise", 1), ("same", 0, 3)] * 13)
        before = list(calls)
        found = answers(calls)
        self.assertEqual(calls, before)
        first = [1, 1, 2, 0, 1, 1, 0]
        again = [1, -33, 2, 1, 1, 1, 0]
        self.assertEqual(found, [1, 0] + first + again * 12)

    def test_forty_begins(self):
        self.assertEqual(answers([0, 4, 65535] * 40), [1, 0] * 40)

    def test_forty_calls_without_numbers(self):
        self.assertEqual(answers([0, 2, 9] + [10] * 39), [1, 0] + [1, 0] * 39)

    def test_nothing_is_kept_from_one_time_to_the_next(self):
        self.assertEqual(answers([0, 2, 9]), [1, 0])
        self.assertEqual(answers([5]), [1, -11])
        self.assertEqual(answers([0, 2, 9, 5]), answers([0, 2, 9, 5]))

    def test_a_new_list_each_time(self):
        first = answers([0, 2, 9, 5])
        first.append(7)
        self.assertEqual(answers([0, 2, 9, 5]), [1, 0, 2, 1, 3])

    def test_whole_numbers_alone_are_answered(self):
        found = answers(told([("begin", 3, 144)] + list(NOW[3:]) + [("splits", 1), ("same", 0, 2), ("same", 0, 1),
                                                                    ("revise", 1), ("learn", 1), ("claim", 1)]))
        self.assertIs(type(found), list)
        for number in found:
            self.assertIs(type(number), int)


if __name__ == "__main__":
    unittest.main()

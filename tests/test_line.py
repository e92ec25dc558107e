"""The calls and the interface: one list in, one list out, and what comes before a begin."""

import contextlib
import io
import random
import unittest

from claimparts.claims import answers
from tests.helper import NAMES, TOP, any_call, run, told

# Every call but begin, each as it would be taken behind one.
OTHERS = (("claim", 1), ("learn", 1), ("revise", 1), ("splits", 1), ("parts",), ("byletter",), ("part", 0), ("ways",),
          ("same", 0, 0), ("lone",), ("free",), ("touched", 1), ("would", 1), ("partsof", 1), ("kept", 1), ("keep", 1),
          ("says", 1), ("follows", 1), ("by", 1), ("look",), ("state",))

# Each of these would be refused behind a begin too.
WRONG = (("claim", TOP), ("claim", 0), ("learn", TOP), ("learn", 0), ("revise", TOP), ("revise", 0),
         ("splits", TOP), ("part", TOP), ("same", TOP, TOP), ("touched", TOP), ("would", TOP), ("would", 0),
         ("partsof", TOP), ("partsof", 0), ("kept", TOP), ("kept", 0), ("keep", TOP), ("says", TOP),
         ("follows", TOP), ("by", TOP), ("by", 0))


class Guarded(list):
    """A list that may be read, and fails as soon as it would be changed."""

    def refuse(self, *given, **named):
        raise AssertionError("what is handed in is changed")

    __setitem__ = __delitem__ = __iadd__ = __imul__ = refuse
    append = extend = insert = pop = remove = clear = sort = reverse = refuse


class BeforeBegin(unittest.TestCase):
    def test_each_other_call(self):
        for call in OTHERS:
            self.assertEqual(run(call), [[-11]])

    def test_ahead_of_every_other_refusal(self):
        for call in WRONG:
            self.assertEqual(run(call), [[-11]])

    def test_all_in_one_list_and_a_begin_behind_them(self):
        found = run(*OTHERS, ("begin", 2, 9), ("parts",))
        self.assertEqual(found, [[-11]] * 21 + [[0], [1, 3]])

    def test_behind_a_refused_begin(self):
        self.assertEqual(run(("begin", 0, 1), *OTHERS), [[-22]] + [[-11]] * 21)
        self.assertEqual(run(("begin", 1, 0), *OTHERS), [[-33]] + [[-11]] * 21)

    def test_every_call_is_taken_behind_a_begin(self):
        self.assertEqual(sorted(call[0] for call in OTHERS + (("begin",),)), sorted(NAMES))
        for call in OTHERS:
            self.assertGreaterEqual(run(("begin", 2, 1), call)[1][0], 0, call)


class Interface(unittest.TestCase):
    def test_the_numbers_as_they_are_told(self):
        self.assertEqual(answers([0, 3, 144, 5, 6, 7, 0, 7, 2, 8, 9, 0, 1, 9, 3, 0, 10, 4, 3, 4, 8]),
                         [1, 0, 3, 2, 3, 4, 4, 3, 0, 0, 2, 3, 3, 153, 2, 1, -33, 3, 2, 2, 1, 1, 1, 1, -2, 2, 1, 2,
                          1, 1, 1, -22])
        self.assertEqual(answers([0, 3, 144, 11, 12, 15, 13, 15, 14, 128, 15, 15, 16, 3, 17, 4, 18, 240, 19, 240, 20,
                                  21]),
                         [1, 0, 1, 0, 2, 1, 4, 1, 9, 4, 3, 1, 2, 4, 1, 1, 1, 153, 1, 1, 1, 1, 2, 1, 4, 1, 144,
                          2, 3, 2])
        self.assertEqual(answers([0, 3, 144, 12, 256, 13, 0, 14, 111, 15, 0, 16, 8, 17, 8, 18, 256, 19, 15, 20]),
                         [1, 0, 1, -22, 1, -33, 1, -33, 1, -33, 1, -22, 1, -22, 1, -22, 1, -33, 1, 144])
        self.assertEqual(answers([0, 2, 15, 1, 14, 2, 11, 3, 5, 10]),
                         [1, 0, 1, 15, 1, 2, 2, 0, 5, 3, 2, 0, 1])

    def test_one_call(self):
        self.assertEqual(answers([5]), [1, -11])
        self.assertEqual(answers([0, 1, 1]), [1, 0])

    def test_forty_calls_and_the_list_is_the_same_afterwards(self):
        calls = told([("begin", 4, 65535)] + [("learn", 65534), ("revise", 1), ("same", 0, 3)] * 13)
        before = list(calls)
        found = answers(calls)
        self.assertEqual(calls, before)
        first = [1, 1, 2, 0, 1, 1, 0]
        again = [1, -33, 2, 1, 1, 1, 0]
        self.assertEqual(found, [1, 0] + first + again * 12)

    def test_forty_begins(self):
        self.assertEqual(answers([0, 4, 65535] * 40), [1, 0] * 40)

    def test_forty_calls_without_numbers(self):
        self.assertEqual(answers([0, 2, 9] + [10] * 39), [1, 0] + [1, 0] * 39)

    def test_nothing_is_kept_from_one_time_to_the_next(self):
        self.assertEqual(answers([0, 2, 9]), [1, 0])
        self.assertEqual(answers([5]), [1, -11])
        self.assertEqual(answers([0, 2, 9, 5]), answers([0, 2, 9, 5]))

    def test_a_new_list_each_time(self):
        first = answers([0, 2, 9, 5])
        first.append(7)
        self.assertEqual(answers([0, 2, 9, 5]), [1, 0, 2, 1, 3])

    def test_whole_numbers_alone_are_answered(self):
        asking = [("splits", 1), ("splits", 3), ("same", 0, 2), ("same", 0, 1), ("says", 0), ("says", 3),
                  ("follows", 1), ("follows", 240), ("revise", 1), ("begin", 3, 144), ("revise", 16)]
        for calls in ([("begin", 3, 144)] + list(OTHERS[3:]), [("begin", 3, 144)] + asking,
                      [("begin", 3, 255)] + list(OTHERS), [("begin", 3, 144)] + list(WRONG)):
            found = answers(told(calls))
            self.assertIs(type(found), list)
            for number in found:
                self.assertIs(type(number), int)

    def test_what_is_handed_in_is_not_changed_for_a_while_either(self):
        chance = random.Random(8)
        lists = [[any_call(chance, (1, 2, 3, 4)) for place in range(40)] for turn in range(50)]
        lists += [[("begin", 2, 1)] + list(OTHERS), [("begin", 2, 1)] + list(WRONG), list(OTHERS)]
        for calls in lists:
            plain = told(calls)
            guarded = Guarded(plain)
            self.assertEqual(answers(guarded), answers(plain))
            self.assertEqual(plain, told(calls))
            self.assertEqual(list(guarded), told(calls))

    def test_nothing_is_printed(self):
        out = io.StringIO()
        with contextlib.redirect_stdout(out), contextlib.redirect_stderr(out):
            answers(told([("begin", 2, 1)] + list(OTHERS)))
            answers(told([("begin", 2, 1)] + list(WRONG)))
        self.assertEqual(out.getvalue(), "")


if __name__ == "__main__":
    unittest.main()

"""Point 2: splits, parts, byletter, part, ways, same, lone."""

import unittest

from tests.helper import TOP, cut, last, letters_of, run

QUESTIONS = (("parts",), ("byletter",), ("ways",), ("lone",))


def asked(m, p):
    """What parts, byletter, ways and lone answer."""
    return run(("begin", m, p), *QUESTIONS)[1:]


def splitting(m, p):
    """All sets of letters by which the claim falls apart."""
    answers = run(("begin", m, p), *[("splits", s) for s in range(1 << m)])[1:]
    return [s for s, answer in enumerate(answers) if answer == [1]]


def each_part(m, p, count):
    return run(("begin", m, p), *[("part", k) for k in range(count)])[1:]


class Ordinary(unittest.TestCase):
    def test_one_letter(self):
        self.assertEqual(asked(1, 3), [[1, 1], [1, 0], [2, 2], [1, 0]])
        self.assertEqual(asked(1, 1), [[1, 1], [1, 0], [1, 1], [1, 0]])
        self.assertEqual(asked(1, 2), [[1, 1], [1, 0], [1, 1], [1, 0]])
        self.assertEqual(splitting(1, 2), [0, 1])
        self.assertEqual(each_part(1, 2, 1), [[1, 2, 1]])
        self.assertEqual(last(("begin", 1, 2), ("same", 0, 0)), [1])

    def test_two_letters_that_are_alike(self):
        self.assertEqual(asked(2, 9), [[1, 3], [2, 0, 0], [2, 2], [0]])
        self.assertEqual(splitting(2, 9), [0, 3])
        self.assertEqual(each_part(2, 9, 1), [[3, 9, 2]])
        self.assertEqual(last(("begin", 2, 9), ("same", 0, 1)), [1])

    def test_two_letters_that_are_settled(self):
        self.assertEqual(asked(2, 4), [[2, 1, 2], [2, 0, 1], [1, 1, 1], [2, 0, 1]])
        self.assertEqual(splitting(2, 4), [0, 1, 2, 3])
        self.assertEqual(each_part(2, 4, 2), [[1, 5, 1], [2, 12, 1]])
        self.assertEqual(last(("begin", 2, 4), ("same", 0, 1)), [0])

    def test_three_letters(self):
        self.assertEqual(asked(3, 144), [[2, 3, 4], [3, 0, 0, 2], [2, 2, 1], [1, 2]])
        self.assertEqual(splitting(3, 144), [0, 3, 4, 7])
        self.assertEqual(each_part(3, 144, 2), [[3, 153, 2], [4, 240, 1]])

    def test_a_part_with_a_letter_between(self):
        a, b, c, always = letters_of(3)
        self.assertEqual(asked(3, a | c), [[2, 5, 2], [3, 0, 1, 0], [6, 3, 2], [1, 1]])
        self.assertEqual(splitting(3, a | c), [0, 2, 5, 7])
        self.assertEqual(each_part(3, a | c, 2), [[5, a | c, 3], [2, always, 2]])

    def test_a_part_of_the_greater_letters(self):
        a, b, c, always = letters_of(3)
        self.assertEqual(asked(3, a & (b | c)), [[2, 1, 6], [3, 0, 1, 1], [3, 1, 3], [1, 0]])

    def test_four_letters_in_two_crossed_parts(self):
        a, b, c, d, always = letters_of(4)
        held = (always ^ a ^ c) & (b | d)
        self.assertEqual(asked(4, held), [[2, 5, 10], [4, 0, 1, 0, 1], [6, 2, 3], [0]])
        self.assertEqual(splitting(4, held), [0, 5, 10, 15])
        self.assertEqual(each_part(4, held, 2), [[5, always ^ a ^ c, 2], [10, b | d, 3]])

    def test_four_letters_in_three_parts(self):
        a, b, c, d, always = letters_of(4)
        held = (a | d) & (always ^ b)
        self.assertEqual(asked(4, held), [[3, 9, 2, 4], [4, 0, 1, 2, 0], [6, 3, 1, 2], [2, 1, 2]])
        self.assertEqual(each_part(4, held, 3), [[9, a | d, 3], [2, always ^ b, 1], [4, always, 2]])

    def test_same_of_each_two_letters(self):
        a, b, c, d, always = letters_of(4)
        held = (a | d) & (always ^ b)
        for i in range(4):
            for j in range(4):
                expected = 1 if i == j or (i, j) in ((0, 3), (3, 0)) else 0
                self.assertEqual(last(("begin", 4, held), ("same", i, j)), [expected])

    def test_asking_changes_nothing(self):
        asking = [("splits", 3), ("parts",), ("byletter",), ("part", 0), ("ways",), ("same", 0, 1), ("lone",)]
        answers = run(("begin", 3, 144), *asking, *asking, ("claim", 1))
        self.assertEqual(answers[1:8], answers[8:15])
        self.assertEqual(answers[15], [144])


class Corners(unittest.TestCase):
    def test_always_so(self):
        self.assertEqual(asked(4, 65535), [[4, 1, 2, 4, 8], [4, 0, 1, 2, 3], [16, 2, 2, 2, 2], [4, 0, 1, 2, 3]])
        self.assertEqual(splitting(4, 65535), list(range(16)))
        self.assertEqual(each_part(4, 65535, 4), [[1 << k, 65535, 2] for k in range(4)])

    def test_one_world_alone(self):
        for m in (1, 2, 3, 4):
            for world in range(1 << m):
                self.assertEqual(asked(m, 1 << world),
                                 [[m] + [1 << letter for letter in range(m)], [m] + list(range(m)),
                                  [1] + [1] * m, [m] + list(range(m))])

    def test_a_settled_letter_is_a_part_alone(self):
        a, b, c, d, always = letters_of(4)
        held = (a | b | c) & (always ^ d)
        self.assertEqual(asked(4, held), [[2, 7, 8], [4, 0, 0, 0, 3], [7, 7, 1], [1, 3]])
        self.assertEqual(last(("begin", 4, held), ("part", 1)), [8, always ^ d, 1])

    def test_a_letter_on_which_it_does_not_depend_is_a_part_alone(self):
        a, b, c, d, always = letters_of(4)
        held = always ^ a ^ b ^ d
        self.assertEqual(asked(4, held), [[2, 11, 4], [4, 0, 0, 2, 0], [8, 4, 2], [1, 2]])
        self.assertEqual(last(("begin", 4, held), ("part", 1)), [4, always, 2])

    def test_hangs_together_whole(self):
        a, b, c, d, always = letters_of(4)
        for held, count in ((a ^ b ^ c ^ d, 8), (a | b | c | d, 15), (32769, 2)):
            self.assertEqual(asked(4, held), [[1, 15], [4, 0, 0, 0, 0], [count, count], [0]])
            self.assertEqual(splitting(4, held), [0, 15])
            self.assertEqual(last(("begin", 4, held), ("part", 0)), [15, held, count])

    def test_two_by_two_free_of_one_another_and_yet_one_part(self):
        a, b, c, always = letters_of(3)
        self.assertEqual(asked(3, a ^ b ^ c), [[1, 7], [3, 0, 0, 0], [4, 4], [0]])


class Refusals(unittest.TestCase):
    def test_splits_at_the_edges(self):
        for m in (1, 2, 3, 4):
            for s in (0, (1 << m) - 1):
                self.assertEqual(last(("begin", m, 2), ("splits", s)), [1])
            for s in (1 << m, 16, TOP - 1, TOP):
                self.assertEqual(last(("begin", m, 2), ("splits", s)), [-22])

    def test_part_at_the_edges(self):
        for m, p, count in ((1, 3, 1), (2, 9, 1), (3, 144, 2), (4, 65535, 4), (4, 27030, 1)):
            self.assertGreater(last(("begin", m, p), ("part", count - 1))[0], 0)
            for k in (count, 4, 5, TOP - 1, TOP):
                self.assertEqual(last(("begin", m, p), ("part", k)), [-33])

    def test_same_at_the_edges(self):
        for m in (1, 2, 3, 4):
            self.assertEqual(last(("begin", m, 1), ("same", m - 1, m - 1)), [1])
            for letter in (m, 4, TOP - 1, TOP):
                for pair in ((letter, 0), (0, letter), (letter, letter), (letter, TOP)):
                    self.assertEqual(last(("begin", m, 1), ("same",) + pair), [-2])

    def test_refused_changes_nothing(self):
        refused = (("splits", 8), ("part", 2), ("same", 3, 0), ("same", 0, 3), ("claim", 256), ("claim", 0),
                   ("learn", 256), ("learn", 111), ("revise", 256), ("revise", 0), ("begin", 5, 1), ("begin", 2, 0))
        numbers = [-22, -33, -2, -2, -22, -33, -22, -33, -22, -33, -22, -33]
        kept = (("splits", 3), ("parts",), ("byletter",), ("part", 0), ("part", 1), ("ways",), ("same", 0, 1),
                ("lone",), ("claim", 1))
        for call, number in zip(refused, numbers):
            answers = run(("begin", 3, 144), call, *kept)
            self.assertEqual(answers, [[0], [number]] + run(("begin", 3, 144), *kept)[1:])
        answers = run(("begin", 3, 144), *refused, *kept)
        self.assertEqual(answers[1:13], [[number] for number in numbers])
        self.assertEqual(answers[13:], run(("begin", 3, 144), *kept)[1:])


class Helping(unittest.TestCase):
    def test_answers_that_are_cut_short_are_seen(self):
        self.assertEqual(cut([1, 0, 2, 5, 6]), [[0], [5, 6]])
        self.assertRaises(ValueError, cut, [1, 0, 2, 5])


if __name__ == "__main__":
    unittest.main()

import unittest
from fractions import Fraction

from tests.helper import Oracle, fraction, last, said, some_answers

MAJORITY = [("begin", 3), ("least", 2, [1, 1, 1])]
TOLD = [("mean",), ("all",), ("even",), ("parts",), ("levels",), ("sides",), ("fewest",), ("rising",),
        ("idle",), ("most",)]


def expected(oracle):
    """What the calls of TOLD answer by the document's words."""
    sways = oracle.sways()
    idle = [bit for bit in range(oracle.bits) if sways[bit] == 0]
    most = min(range(oracle.bits), key=lambda bit: (-sways[bit], bit))
    parts = [[chosen] + fraction(oracle.part(chosen)) for chosen in oracle.words if oracle.part(chosen) != 0]
    levels = [fraction(oracle.level(size)) for size in range(oracle.bits + 1)]
    return [
        [0] + fraction(oracle.mean()),
        [0] + fraction(sum(sways)),
        [0] + fraction(oracle.even()),
        [len(parts)] + sum(parts, []),
        [len(levels)] + sum(levels, []),
        [oracle.sides()],
        [Oracle(oracle.bits, range(len(oracle.yes))).sides()],
        [oracle.rising()],
        [len(idle)] + idle,
        [most] + fraction(sways[most]),
    ]


class ByTheWords(unittest.TestCase):
    def test_what_is_told_of_the_whole(self):
        for bits, yes in some_answers():
            found = said(("begin", bits), ("told", yes), *TOLD)[2:]
            self.assertEqual(found, expected(Oracle(bits, yes)), (bits, yes))

    def test_each_bit_word_and_set(self):
        for bits, yes in some_answers():
            oracle = Oracle(bits, yes)
            for call, what, size in (
                ("sway", lambda bit: [0] + fraction(oracle.sway(bit)), bits),
                ("ask", lambda word: [1 if word in oracle.yes else 0], 2 ** bits),
                ("part", lambda chosen: [0] + fraction(oracle.part(chosen)), 2 ** bits),
            ):
                found = said(("begin", bits), ("told", yes), *[(call, place) for place in range(size)])[2:]
                self.assertEqual(found, [what(place) for place in range(size)], (call, bits, yes))


class Ask(unittest.TestCase):
    def test_ask(self):
        self.assertEqual(said(*MAJORITY, ("ask", 3), ("ask", 4), ("ask", 7), ("ask", 8))[2:], [[1], [0], [1], [-22]])

    def test_words_at_their_edge(self):
        for bits in range(1, 6):
            found = said(("begin", bits), ("ask", 2 ** bits - 1), ("ask", 2 ** bits))
            self.assertEqual(found[1:], [[0], [-22]])


class Sways(unittest.TestCase):
    def test_the_most_of_three(self):
        self.assertEqual(said(*MAJORITY, ("sway", 0), ("sway", 2), ("sway", 3), ("all",), ("most",))[2:],
                         [[0, 1, 2], [0, 1, 2], [-2], [0, 3, 2], [0, 1, 2]])

    def test_bits_at_their_edge(self):
        for bits in range(1, 6):
            found = said(("begin", bits), ("bit", bits - 1), ("sway", bits - 1), ("sway", bits))
            self.assertEqual(found[2:], [[0, 1, 1], [-2]])

    def test_together_they_may_be_more_than_1(self):
        self.assertEqual(last(("begin", 5), ("odd", 31), ("all",)), [0, 5, 1])
        self.assertEqual(last(("begin", 5), ("all",)), [0, 0, 1])

    def test_most_is_the_first_of_like_ones(self):
        self.assertEqual(last(("begin", 5), ("odd", 20), ("most",)), [2, 1, 1])
        self.assertEqual(last(("begin", 5), ("odd", 31), ("most",)), [0, 1, 1])
        self.assertEqual(last(("begin", 5), ("most",)), [0, 0, 1])
        self.assertEqual(last(("begin", 3), ("least", 3, [1, 2, 2]), ("most",)), [0, 1, 2])
        self.assertEqual(last(("begin", 3), ("least", 3, [1, 1, 3]), ("most",)), [2, 1, 1])

    def test_idle(self):
        self.assertEqual(last(("begin", 5), ("odd", 20), ("idle",)), [3, 0, 1, 3])
        self.assertEqual(last(("begin", 5), ("idle",)), [5, 0, 1, 2, 3, 4])
        self.assertEqual(last(("begin", 5), ("odd", 31), ("idle",)), [0])
        self.assertEqual(last(("begin", 1), ("not",), ("idle",)), [1, 0])


class Parts(unittest.TestCase):
    def test_mean_and_even(self):
        self.assertEqual(said(("begin", 2), ("told", [3]), ("mean",), ("even",))[2:], [[0, 1, 4], [0, 3, 4]])
        self.assertEqual(said(*MAJORITY, ("mean",), ("even",))[2:], [[0, 1, 2], [0, 1, 1]])
        self.assertEqual(said(("begin", 5), ("even",), ("not",), ("even",), ("mean",))[1:],
                         [[0, 0, 1], [32], [0, 0, 1], [0, 1, 1]])

    def test_the_most_of_three(self):
        self.assertEqual(last(*MAJORITY, ("parts",)), [4, 1, 1, 2, 2, 1, 2, 4, 1, 2, 7, -1, 2])
        self.assertEqual(last(*MAJORITY, ("levels",)), [4, 0, 1, 3, 4, 0, 1, 1, 4])
        self.assertEqual(said(*MAJORITY, ("part", 0), ("part", 1), ("part", 3), ("part", 7), ("part", 8))[2:],
                         [[0, 0, 1], [0, 1, 2], [0, 0, 1], [0, -1, 2], [-22]])

    def test_no_to_all_and_yes_to_all(self):
        self.assertEqual(said(("begin", 2), ("parts",), ("levels",), ("not",), ("parts",), ("levels",))[1:],
                         [[1, 0, 1, 1], [3, 1, 1, 0, 1, 0, 1], [4], [1, 0, -1, 1], [3, 1, 1, 0, 1, 0, 1]])

    def test_an_odd_one_has_just_its_set(self):
        self.assertEqual(last(("begin", 5), ("odd", 19), ("parts",)), [1, 19, 1, 1])
        self.assertEqual(last(("begin", 5), ("odd", 19), ("levels",)), [6, 0, 1, 0, 1, 0, 1, 1, 1, 0, 1, 0, 1])

    def test_one_bit(self):
        self.assertEqual(said(("begin", 1), ("bit", 0), ("parts",), ("levels",))[2:], [[1, 1, 1, 1], [2, 0, 1, 1, 1]])

    def test_sets_at_their_edge(self):
        for bits in range(1, 6):
            found = said(("begin", bits), ("part", 2 ** bits - 1), ("part", 2 ** bits))
            self.assertEqual(found[1:], [[0, 0, 1], [-22]])


class Sides(unittest.TestCase):
    def test_the_most_of_three(self):
        self.assertEqual(said(*MAJORITY, ("sides",), ("fewest",))[2:], [[6], [4]])

    def test_odd(self):
        self.assertEqual(said(("begin", 5), ("odd", 31), ("sides",), ("fewest",))[2:], [[80], [16]])

    def test_one_bit(self):
        self.assertEqual(said(("begin", 1), ("sides",), ("bit", 0), ("sides",), ("fewest",))[1:], [[0], [1], [1], [1]])

    def test_the_first_words(self):
        self.assertEqual(said(("begin", 3), ("told", [1, 4, 7]), ("sides",), ("fewest",), ("state",))[2:],
                         [[9], [5], [3, 1, 4, 7]])

    def test_none_has_fewer_than_the_first_words(self):
        for bits, yes in some_answers():
            found = said(("begin", bits), ("told", yes), ("sides",), ("fewest",))
            self.assertGreaterEqual(found[2], found[3])


class Rising(unittest.TestCase):
    def test_rising(self):
        self.assertEqual(last(*MAJORITY, ("rising",)), [1])
        self.assertEqual(last(("begin", 2), ("odd", 3), ("rising",)), [0])
        self.assertEqual(last(("begin", 5), ("rising",)), [1])
        self.assertEqual(last(("begin", 5), ("not",), ("rising",)), [1])
        self.assertEqual(last(("begin", 5), ("not",), ("set", 31, 0), ("rising",)), [0])
        self.assertEqual(last(("begin", 1), ("bit", 0), ("not",), ("rising",)), [0])


class WhatHolds(unittest.TestCase):
    def test_sways_together_are_no_less_than_how_even(self):
        for bits, yes in some_answers():
            whole, even = said(("begin", bits), ("told", yes), ("all",), ("even",))[2:]
            self.assertGreaterEqual(Fraction(*whole[1:]), Fraction(*even[1:]))


if __name__ == "__main__":
    unittest.main()

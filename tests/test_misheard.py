import unittest
from fractions import Fraction

from tests.helper import HUGE, Oracle, fraction, last, said, some_answers

MAJORITY = [("begin", 3), ("least", 2, [1, 1, 1])]
CHANCES = [(0, 1), (1, 2), (1, 10), (3, 20), (10, 20), (2, 7)]


class ByTheWords(unittest.TestCase):
    def test_what_is_told_of_the_whole(self):
        for place, (bits, yes) in enumerate(some_answers()):
            upper, lower = CHANCES[place % len(CHANCES)]
            oracle = Oracle(bits, yes, Fraction(upper, lower))
            found = said(("begin", bits), ("told", yes), ("ifchance", upper, lower), ("chance", upper, lower),
                         ("stays",), ("agree",), ("worst",), *[("soft", word) for word in oracle.words[:8]])
            worst = min(oracle.words, key=lambda word: (oracle.rightly(word), word))
            self.assertEqual(found[2:], [
                [0] + fraction(oracle.stays()),
                [0],
                [0] + fraction(oracle.stays()),
                [0] + fraction(oracle.agree()),
                [worst] + fraction(oracle.rightly(worst)),
            ] + [[0] + fraction(oracle.soft(word)) for word in oracle.words[:8]], (bits, yes, upper, lower))

    def test_heard(self):
        for bits in range(1, 6):
            for upper, lower in CHANCES:
                oracle = Oracle(bits, [], Fraction(upper, lower))
                for meant in oracle.words:
                    found = said(("begin", bits), ("chance", upper, lower), *[("heard", meant, word) for word in oracle.words])
                    self.assertEqual(found[2:], [[0] + fraction(oracle.heard(meant, word)) for word in oracle.words])


class Chance(unittest.TestCase):
    def test_told_and_kept(self):
        self.assertEqual(said(("begin", 1), ("chance", 3, 12), ("heard", 0, 1), ("heard", 1, 1))[1:],
                         [[0], [0, 1, 4], [0, 3, 4]])

    def test_edges(self):
        for upper, lower in ((0, 1), (0, 20), (1, 2), (10, 20), (9, 19), (1, 20)):
            found = said(("begin", 1), ("chance", upper, lower), ("heard", 0, 1), ("ifchance", upper, lower))
            self.assertEqual(found[1:], [[0], [0] + fraction(Fraction(upper, lower)), [0] + fraction(1)])

    def test_refused(self):
        for upper, lower in ((0, 0), (1, 1), (2, 3), (11, 20), (10, 19), (0, 21), (1, 21), (1, 0), (HUGE, 20),
                             (1, HUGE), (HUGE, HUGE)):
            found = said(("begin", 1), ("chance", upper, lower), ("ifchance", upper, lower), ("heard", 0, 1))
            self.assertEqual(found[1:], [[-22], [-22], [0, 1, 10]], (upper, lower))

    def test_another_answer_leaves_it(self):
        self.assertEqual(last(("begin", 1), ("chance", 1, 3), ("odd", 1), ("not",), ("heard", 0, 1)), [0, 1, 3])


class Heard(unittest.TestCase):
    def test_heard(self):
        self.assertEqual(said(("begin", 3), ("heard", 5, 5), ("heard", 5, 4), ("heard", 0, 7), ("heard", 2, 4))[1:],
                         [[0, 729, 1000], [0, 81, 1000], [0, 1, 1000], [0, 9, 1000]])

    def test_never_and_half(self):
        self.assertEqual(said(("begin", 5), ("chance", 0, 7), ("heard", 9, 9), ("heard", 9, 8))[2:],
                         [[0, 1, 1], [0, 0, 1]])
        self.assertEqual(said(("begin", 5), ("chance", 1, 2), ("heard", 9, 9), ("heard", 0, 31))[2:],
                         [[0, 1, 32], [0, 1, 32]])

    def test_words_at_their_edge(self):
        for bits in range(1, 6):
            edge = 2 ** bits
            self.assertEqual(said(("begin", bits), ("chance", 0, 1), ("heard", edge - 1, edge - 1),
                                  ("heard", edge, 0), ("heard", 0, edge), ("soft", edge - 1), ("soft", edge))[2:],
                             [[0, 1, 1], [-22], [-22], [0, 0, 1], [-22]])


class WhatIsSaid(unittest.TestCase):
    def test_soft(self):
        self.assertEqual(said(*MAJORITY, ("soft", 7), ("soft", 0), ("soft", 3), ("soft", 8))[2:],
                         [[0, 243, 250], [0, 7, 250], [0, 207, 250], [-22]])

    def test_the_most_of_three(self):
        self.assertEqual(said(*MAJORITY, ("stays",), ("worst",), ("ifchance", 1, 2), ("ifchance", 0, 1))[2:],
                         [[0, 108, 125], [1, 207, 250], [0, 1, 2], [0, 1, 1]])

    def test_one_bit(self):
        self.assertEqual(said(("begin", 1), ("bit", 0), ("soft", 1), ("stays",), ("agree",), ("worst",))[2:],
                         [[0, 9, 10], [0, 9, 10], [0, 41, 50], [0, 9, 10]])

    def test_nothing_hangs_on_the_bits(self):
        self.assertEqual(said(("begin", 5), ("stays",), ("agree",), ("worst",), ("soft", 3), ("not",), ("stays",),
                              ("agree",), ("worst",), ("soft", 3))[1:],
                         [[0, 1, 1], [0, 1, 1], [0, 1, 1], [0, 0, 1], [32], [0, 1, 1], [0, 1, 1], [0, 1, 1], [0, 1, 1]])

    def test_ifchance_keeps_the_chance(self):
        self.assertEqual(said(*MAJORITY, ("ifchance", 1, 2), ("stays",), ("heard", 0, 0))[3:],
                         [[0, 108, 125], [0, 729, 1000]])

    def test_worst_is_the_first_of_like_ones(self):
        self.assertEqual(last(("begin", 2), ("odd", 3), ("worst",)), [0, 41, 50])
        self.assertEqual(last(("begin", 5), ("told", [31]), ("worst",)), [31, 59049, 100000])
        self.assertEqual(last(("begin", 5), ("told", [9]), ("chance", 1, 2), ("worst",)), [9, 1, 32])

    def test_agree_by_half(self):
        self.assertEqual(said(("begin", 2), ("told", [0]), ("chance", 1, 2), ("stays",), ("agree",))[3:],
                         [[0, 5, 8], [0, 5, 8]])
        self.assertEqual(said(("begin", 1), ("bit", 0), ("chance", 1, 2), ("agree",))[3:], [[0, 1, 2]])


class WhatHolds(unittest.TestCase):
    def test_even_stays_no_likelier_than_one_bit(self):
        for bits, yes in some_answers():
            if 2 * len(yes) == 2 ** bits:
                stays = last(("begin", bits), ("told", yes), ("stays",))
                self.assertLessEqual(Fraction(*stays[1:]), Fraction(9, 10))


if __name__ == "__main__":
    unittest.main()

import unittest
from fractions import Fraction

from tests.helper import HUGE, Oracle, fraction, last, said, some_answers

MAJORITY = [("begin", 3), ("least", 2, [1, 1, 1])]
TOLD = [("rounds",), ("noround",), ("byparts",), ("isodd",), ("alike",), ("whose",), ("first",),
        ("wins", 0), ("wins", 1), ("wins", 2)]
COMPARED = [("vote", [0] * 4), ("winner", [0] * 4), ("order", [0] * 4), *TOLD]


def some_of_four():
    """Those answers that can be compared by: how many bits, and the yes words."""
    return [(bits, yes) for bits, yes in some_answers() if bits < 5]


def expected(oracle):
    """What the calls of TOLD answer by the document's words."""
    votes = oracle.votes()
    rounds = oracle.rounds()
    won = [winner[0] for winner in map(oracle.winner, votes) if winner]
    return [
        [len(rounds)],
        [0] + fraction(1 - Fraction(len(rounds), len(votes))),
        [0] + fraction(oracle.byparts()),
        [oracle.isodd()],
        [oracle.alike()],
        oracle.whose(),
        [oracle.bits] + list(rounds[0]) if rounds else [-33],
        [won.count("a")],
        [won.count("b")],
        [won.count("c")],
    ]


class ByTheWords(unittest.TestCase):
    def test_what_is_told_of_the_whole(self):
        for bits, yes in some_of_four():
            found = said(("begin", bits), ("told", yes), *TOLD)[2:]
            self.assertEqual(found, expected(Oracle(bits, yes)), (bits, yes))

    def test_each_vote(self):
        for bits, yes in some_of_four():
            oracle = Oracle(bits, yes)
            # Of the many votes by many voters some, so that all orders stand with each voter.
            votes = oracle.votes()[::1 if bits < 3 else 17 if bits == 3 else 119]
            for at in range(0, len(votes), 16):
                some = [list(vote) for vote in votes[at:at + 16]]
                calls = [(name, vote) for vote in some for name in ("vote", "winner", "order")]
                due = []
                for vote in some:
                    comes_round = oracle.comes_round(vote)
                    due.append([int(comes_round)] + [int(yes) for yes in oracle.vote(vote)])
                    due.append([-33] if comes_round else ["abc".index(oracle.winner(vote)[0])])
                    due.append([-33] if comes_round else [oracle.order(vote)])
                self.assertEqual(said(("begin", bits), ("told", yes), *calls)[2:], due, (bits, yes))


class Voters(unittest.TestCase):
    def test_five_bits_come_ahead_of_all(self):
        for call in COMPARED + [("vote", []), ("winner", [6]), ("order", [HUGE] * 255), ("wins", 3), ("wins", HUGE)]:
            found = said(("begin", 5), ("told", [3, 30]), call, ("state",), ("back",))
            self.assertEqual(found[2:], [[-75], [5, 3, 30], [0]], call)

    def test_four_bits(self):
        found = said(("begin", 4), ("bit", 3), *COMPARED)[2:]
        self.assertEqual(found, [[0, 1, 1, 0], [0], [0], [0], [0, 1, 1], [0, 1, 1], [1], [0], [3, 1], [-33],
                                 [432], [432], [432]])

    def test_begun_anew_with_fewer(self):
        self.assertEqual(last(("begin", 5), ("rounds",), ("begin", 4), ("rounds",)), [1296])


class Votes(unittest.TestCase):
    def test_orders_by_one_voter(self):
        due = [[0, 1, 1, 0], [0, 1, 0, 0], [0, 0, 1, 0], [0, 0, 1, 1], [0, 1, 0, 1], [0, 0, 0, 1]]
        for order in range(6):
            found = said(("begin", 1), ("bit", 0), ("vote", [order]), ("winner", [order]), ("order", [order]))
            self.assertEqual(found[2:], [due[order], [order // 2], [order]])

    def test_the_voter_whose_bit_it_is(self):
        for bit in range(4):
            vote = [0, 0, 0, 0]
            vote[bit] = 3
            found = said(("begin", 4), ("bit", bit), ("vote", vote), ("winner", vote), ("order", vote))
            self.assertEqual(found[2:], [[0, 0, 1, 1], [1], [3]])

    def test_a_round(self):
        found = said(*MAJORITY, ("vote", [0, 3, 4]), ("vote", [1, 2, 5]), ("winner", [0, 3, 4]), ("order", [1, 2, 5]))
        self.assertEqual(found[2:], [[1, 1, 1, 1], [1, 0, 0, 0], [-33], [-33]])

    def test_an_order_of_each_voter(self):
        for bits in range(1, 5):
            for size in range(8):
                for name in ("vote", "winner", "order"):
                    found = last(("begin", bits), ("bit", 0), (name, [0] * size))
                    self.assertEqual(found == [-22], size != bits, (bits, size, name))
        self.assertEqual(last(("begin", 4), ("vote", [0] * 255)), [-22])

    def test_orders_at_their_edge(self):
        for name, five in (("vote", [0, 0, 0, 1]), ("winner", [2]), ("order", [5])):
            for place in range(4):
                vote = [5, 5, 5, 5]
                found = said(("begin", 4), ("bit", place), (name, vote))
                self.assertEqual(found[2], five)
                for wrong in (6, 7, HUGE):
                    vote[place] = wrong
                    self.assertEqual(last(("begin", 4), ("bit", place), (name, vote)), [-22])

    def test_wrong_ahead_of_none(self):
        self.assertEqual(said(("begin", 2), ("winner", [0, 0]), ("winner", [0, 6]), ("order", [0]))[1:],
                         [[-33], [-22], [-22]])


class Rounds(unittest.TestCase):
    def test_the_most_of_three(self):
        self.assertEqual(said(*MAJORITY, *TOLD)[2:],
                         [[12], [0, 17, 18], [0, 17, 18], [1], [1], [-33], [3, 0, 3, 4], [68], [68], [68]])

    def test_no_to_all_and_yes_to_all(self):
        for bits in range(1, 5):
            due = [[6 ** bits], [0, 0, 1], [0, 0, 1], [0], [1], [-33], [bits] + [0] * bits, [0], [0], [0]]
            self.assertEqual(said(("begin", bits), *TOLD)[1:], due)
            self.assertEqual(said(("begin", bits), ("not",), *TOLD)[2:], due)

    def test_one_bit(self):
        due = [[0], [0, 1, 1], [0, 1, 1], [1], [1]]
        self.assertEqual(said(("begin", 1), ("bit", 0), *TOLD)[2:], due + [[0, 1], [-33], [2], [2], [2]])
        self.assertEqual(said(("begin", 1), ("told", [0]), *TOLD)[2:], due + [[0, 0], [-33], [2], [2], [2]])

    def test_first_is_the_one_with_the_lesser_number_first(self):
        self.assertEqual(last(("begin", 2), ("odd", 3), ("first",)), [2, 0, 0])
        self.assertEqual(last(("begin", 2), ("told", [3]), ("first",)), [2, 0, 5])
        self.assertEqual(last(("begin", 4), ("least", 2, [1, 1, 1, 1]), ("first",)), [4, 0, 0, 3, 3])

    def test_things_at_their_edge(self):
        self.assertEqual(said(*MAJORITY, ("wins", 2), ("wins", 3), ("wins", HUGE))[2:], [[68], [-22], [-22]])

    def test_things_win_unlike(self):
        for thing in range(3):
            count = last(("begin", 2), ("told", [1, 2]), ("wins", thing))[0]
            oracle = Oracle(2, [1, 2])
            self.assertEqual(count, sum(oracle.winner(vote) == ["abc"[thing]] for vote in oracle.votes()))


class Kinds(unittest.TestCase):
    def test_isodd(self):
        self.assertEqual(said(("begin", 2), ("bit", 1), ("isodd",), ("odd", 3), ("isodd",), ("isodd",))[2:],
                         [[1], [2], [0], [0]])
        self.assertEqual(said(("begin", 3), ("odd", 7), ("isodd",), ("set", 0, 1), ("isodd",))[2:], [[1], [5], [0]])

    def test_alike(self):
        self.assertEqual(last(("begin", 4), ("least", 2, [1, 1, 1, 1]), ("alike",)), [1])
        self.assertEqual(last(("begin", 4), ("least", 2, [1, 1, 1, 2]), ("alike",)), [0])
        self.assertEqual(last(("begin", 4), ("told", [0, 15]), ("alike",)), [1])
        self.assertEqual(last(("begin", 4), ("told", [8]), ("alike",)), [0])
        self.assertEqual(last(("begin", 4), ("told", [1]), ("alike",)), [0])

    def test_whose(self):
        for bits in range(1, 5):
            for bit in range(bits):
                self.assertEqual(said(("begin", bits), ("bit", bit), ("whose",), ("not",), ("whose",))[2::2],
                                 [[bit, 1], [bit, 0]])
                if bits > 1:
                    self.assertEqual(last(("begin", bits), ("bit", bit), ("set", 0, 1), ("whose",)), [-33])
        self.assertEqual(last(("begin", 2), ("odd", 3), ("whose",)), [-33])


class WhatHolds(unittest.TestCase):
    def test_no_rounds_come_just_by_one_bit_or_its_opposite(self):
        for bits, yes in some_of_four():
            rounds, whose = said(("begin", bits), ("told", yes), ("rounds",), ("whose",))[2:]
            self.assertEqual(rounds == [0], whose != [-33], (bits, yes))

    def test_by_parts_it_is_the_same(self):
        for bits, yes in some_of_four():
            counted, parted = said(("begin", bits), ("told", yes), ("noround",), ("byparts",))[2:]
            self.assertEqual(counted, parted, (bits, yes))


if __name__ == "__main__":
    unittest.main()

import unittest
from fractions import Fraction

from tests.helper import HUGE, Oracle, fraction, last, said, some_answers

MAJORITY = [("begin", 3), ("least", 2, [1, 1, 1])]
EMPTY = [0, -1, -1, -1, -1]


def pairs():
    """Twos of answers of as many bits: how many, and the yes words of both."""
    found = []
    some = some_answers()
    for bits in range(1, 6):
        like = [yes for size, yes in some if size == bits]
        for place, yes in enumerate(like):
            found.append((bits, yes, like[(place * 7 + 3) % len(like)]))
    return found


def with_both(bits, own, other):
    """A desk that says yes to the former words, with the others' answer at place 2."""
    return [("begin", bits), ("told", other), ("put", 2), ("told", own)]


class ByTheWords(unittest.TestCase):
    def test_join_and_same(self):
        for bits, own, other in pairs():
            for way, due in enumerate((set(own) & set(other), set(own) | set(other), set(own) ^ set(other))):
                found = said(*with_both(bits, own, other), ("same", 2), ("join", way, 2), ("state",), ("shelf",))
                same = [word for word in range(2 ** bits) if (word in own) == (word in other)]
                self.assertEqual(found[4:], [[0] + fraction(Fraction(len(same), 2 ** bits)), [len(due)],
                                             [bits] + sorted(due), [1, -1, -1, len(other), -1]], (bits, own, other))

    def test_more_and_best(self):
        chances = [(1, 10), (0, 1), (1, 2), (3, 20)]
        for place, (bits, own, other) in enumerate(pairs()):
            upper, lower = chances[place % len(chances)]
            both = [Oracle(bits, yes, Fraction(upper, lower)) for yes in (own, other)]
            found = said(*with_both(bits, own, other), ("put", 3), ("put", 0), ("chance", upper, lower),
                         *[("more", measure, 2) for measure in range(4)], *[("best", measure) for measure in range(4)])
            measures = [[oracle.measure(measure) for oracle in both] for measure in range(4)]
            due = [[int(first > second)] + fraction(first) + fraction(second) for first, second in measures]
            due += [[0 if first >= second else 2] + fraction(max(first, second)) for first, second in measures]
            self.assertEqual(found[7:], due, (bits, own, other, upper, lower))


class Put(unittest.TestCase):
    def test_places(self):
        for place in range(4):
            due = [1, -1, -1, -1, -1]
            due[place + 1] = 4
            self.assertEqual(said(*MAJORITY, ("put", place), ("shelf",))[2:], [[0], due])
        for place in (4, 5, HUGE):
            self.assertEqual(said(*MAJORITY, ("put", place), ("shelf",))[2:], [[-2], EMPTY])

    def test_the_answer_stays_and_what_stands_there_does(self):
        found = said(*MAJORITY, ("put", 1), ("state",), ("told", [0]), ("shelf",), ("take", 1), ("state",), ("shelf",))
        self.assertEqual(found[3:], [[3, 3, 5, 6, 7], [1], [1, -1, 4, -1, -1], [4], [3, 3, 5, 6, 7],
                                     [1, -1, 4, -1, -1]])

    def test_something_stood_there(self):
        found = said(("begin", 2), ("put", 0), ("put", 0), ("not",), ("put", 0), ("put", 3), ("shelf",))
        self.assertEqual(found[1:], [[0], [1], [4], [1], [0], [2, 4, -1, -1, 4]])

    def test_no_to_all_stands_too(self):
        self.assertEqual(said(("begin", 1), ("put", 2), ("shelf",), ("not",), ("take", 2))[2:],
                         [[1, -1, -1, 0, -1], [2], [0]])

    def test_turned_behind_it(self):
        made = [("begin", 3), ("told", [1, 2]), ("put", 0), ("turn", 2)]
        self.assertEqual(said(*made, ("same", 0), ("take", 0), ("state",))[4:], [[0, 1, 2], [2], [3, 1, 2]])


class Take(unittest.TestCase):
    def test_to_how_many(self):
        self.assertEqual(said(*MAJORITY, ("put", 3), ("not",), ("set", 7, 1), ("take", 3), ("state",))[5:],
                         [[4], [3, 3, 5, 6, 7]])

    def test_refused(self):
        self.assertEqual(said(*MAJORITY, ("put", 3), ("take", 4), ("take", HUGE), ("take", 2), ("take", 0))[3:],
                         [[-2], [-2], [-6], [-6]])


class Join(unittest.TestCase):
    def test_with_itself(self):
        for way, due in enumerate(([3, 3, 5, 6, 7], [3, 3, 5, 6, 7], [3])):
            found = said(*MAJORITY, ("put", 1), ("join", way, 1), ("state",))
            self.assertEqual(found[3:], [[len(due) - 1], due])

    def test_both_of_two_odd_ones(self):
        made = [("begin", 3), ("odd", 3), ("put", 0), ("odd", 6)]
        self.assertEqual(said(*made, ("join", 0, 0), ("state",))[4:], [[2], [3, 2, 5]])
        self.assertEqual(said(*made, ("join", 2, 0), ("state",))[4:], [[4], [3, 1, 3, 4, 6]])

    def test_refused(self):
        made = [*MAJORITY, ("put", 0)]
        for way, place, due in ((0, 4, -2), (3, 4, -2), (HUGE, HUGE, -2), (3, 0, -22), (3, 1, -22), (HUGE, 1, -22),
                                (0, 1, -6), (2, 3, -6)):
            self.assertEqual(last(*made, ("join", way, place)), [due], (way, place))


class Same(unittest.TestCase):
    def test_same(self):
        self.assertEqual(said(*MAJORITY, ("put", 0), ("same", 0), ("not",), ("same", 0), ("bit", 0), ("same", 0))[3:],
                         [[0, 1, 1], [4], [0, 0, 1], [4], [0, 3, 4]])

    def test_refused(self):
        self.assertEqual(said(*MAJORITY, ("put", 0), ("same", 4), ("same", 1), ("same", 3))[3:], [[-2], [-6], [-6]])


class More(unittest.TestCase):
    def test_greater_alone_is_more(self):
        found = said(*MAJORITY, ("put", 2), *[("more", measure, 2) for measure in range(4)])
        self.assertEqual(found[3:], [[0, 1, 1, 1, 1], [0, 3, 2, 3, 2], [0, 108, 125, 108, 125],
                                     [0, 17, 18, 17, 18]])

    def test_refused(self):
        made = [*MAJORITY, ("put", 0)]
        for measure, place, due in ((0, 4, -2), (4, 4, -2), (4, 0, -22), (4, 1, -22), (HUGE, 3, -22), (3, 1, -6),
                                    (0, 3, -6)):
            self.assertEqual(last(*made, ("more", measure, place)), [due], (measure, place))


class Best(unittest.TestCase):
    def test_of_like_ones_the_first(self):
        made = [("begin", 3), ("put", 0), ("bit", 2), ("put", 3), ("bit", 0), ("put", 2), ("odd", 7)]
        found = said(*made, *[("best", measure) for measure in range(4)])[7:]
        self.assertEqual(found, [[2, 1, 1], [2, 1, 1], [0, 1, 1], [2, 1, 1]])

    def test_the_answer_itself_is_not_asked(self):
        self.assertEqual(last(("begin", 2), ("put", 1), ("odd", 3), ("best", 1)), [1, 0, 1])

    def test_the_last_place(self):
        self.assertEqual(last(("begin", 2), ("put", 0), ("put", 2), ("odd", 3), ("put", 3), ("best", 1)), [3, 2, 1])

    def test_the_chance_told_anew(self):
        made = [*MAJORITY, ("put", 1), ("chance", 1, 4)]
        self.assertEqual(said(*made, ("best", 2), ("stays",), ("more", 2, 1))[4:],
                         [[1, 45, 64], [0, 45, 64], [0, 45, 64, 45, 64]])

    def test_refused(self):
        self.assertEqual(said(("begin", 2), ("best", 4), ("best", HUGE), ("best", 3), ("put", 1), ("best", 4),
                              ("best", 3))[1:], [[-22], [-22], [-6], [0], [-22], [1, 0, 1]])


class Shelf(unittest.TestCase):
    def test_each_place(self):
        found = said(("begin", 5), ("shelf",), ("put", 3), ("bit", 4), ("put", 0), ("not",), ("told", [7]), ("put", 1),
                     ("shelf",), ("odd", 31), ("put", 2), ("shelf",))
        self.assertEqual([found[1], found[8], found[11]], [EMPTY, [3, 16, 1, -1, 0], [4, 16, 1, 16, 0]])

    def test_begun_anew_it_is_empty(self):
        self.assertEqual(said(*MAJORITY, ("put", 0), ("begin", 3), ("shelf",), ("take", 0), ("best", 0))[3:],
                         [[0], EMPTY, [-6], [-6]])

    def test_a_begin_refused_leaves_it(self):
        self.assertEqual(said(*MAJORITY, ("put", 0), ("begin", 6), ("shelf",))[3:], [[-22], [1, 4, -1, -1, -1]])


class WhatHolds(unittest.TestCase):
    def test_both_or_one_of_two_that_rise_rise(self):
        for bits, own, other in pairs():
            if Oracle(bits, own).rising() and Oracle(bits, other).rising():
                for way in (0, 1):
                    found = last(*with_both(bits, own, other), ("join", way, 2), ("rising",))
                    self.assertEqual(found, [1], (bits, own, other, way))

    def test_both_are_no_less_likely_than_not_hanging_together(self):
        risen = 0
        rising = [(bits, yes) for bits, yes in some_answers() if Oracle(bits, yes).rising()]
        for bits, own in rising:
            for size, other in rising:
                if size == bits:
                    risen += 1
                    made = with_both(bits, own, other)
                    found = said(*made[:3], ("mean",), ("yes", 1, 3), made[3], ("mean",), ("yes", 1, 3), ("join", 0, 2),
                                 ("mean",), ("yes", 1, 3))
                    self.assertGreaterEqual(Fraction(*found[9][1:]), Fraction(*found[3][1:]) * Fraction(*found[6][1:]))
                    self.assertGreaterEqual(Fraction(*found[10][1:]), Fraction(*found[4][1:]) * Fraction(*found[7][1:]))
        self.assertGreater(risen, 400)

    def test_same_is_half_of_1_and_of_the_parts_multiplied(self):
        for bits, own, other in pairs():
            one, two = Oracle(bits, own), Oracle(bits, other)
            parts = sum((one.part(chosen) * two.part(chosen) for chosen in one.words), Fraction(0))
            found = last(*with_both(bits, own, other), ("same", 2))
            self.assertEqual(found, [0] + fraction((1 + parts) / 2), (bits, own, other))


if __name__ == "__main__":
    unittest.main()

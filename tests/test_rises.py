import unittest
from fractions import Fraction

from tests.helper import HUGE, Oracle, fraction, last, said, some_answers

MAJORITY = [("begin", 3), ("least", 2, [1, 1, 1])]
CHANCES = [(0, 1), (1, 1), (1, 2), (1, 3), (7, 10), (2, 8), (37, 99), (100, 100), (1, 100), (0, 100)]
LOWERS = [1, 2, 3, 7, 10]
NOTHING_RIGHT = [(0, 0), (1, 0), (2, 1), (101, 100), (0, 101), (1, 101), (101, 101), (HUGE, HUGE), (HUGE, 1),
                 (0, HUGE)]


def least(oracle, d, due):
    """What half, and each end of width, comes to."""
    found = oracle.least_for(d, due)
    return [-33] if found is None else [found]


class ByTheWords(unittest.TestCase):
    def test_at_a_chance(self):
        for place, (bits, yes) in enumerate(some_answers()):
            oracle = Oracle(bits, yes)
            upper, lower = CHANCES[place % len(CHANCES)]
            p = Fraction(upper, lower)
            found = said(("begin", bits), ("told", yes), ("yes", upper, lower), ("slope", upper, lower), ("sizes",),
                         *[("swayat", bit, upper, lower) for bit in range(bits)])[2:]
            due = [[0] + fraction(oracle.yes_at(p)), [0] + fraction(oracle.slope(p)), [bits + 1] + oracle.sizes()]
            due += [[0] + fraction(oracle.sway_at(bit, p)) for bit in range(bits)]
            self.assertEqual(found, due, (bits, yes, upper, lower))

    def test_tries(self):
        for place, (bits, yes) in enumerate(some_answers()):
            oracle = Oracle(bits, yes)
            upper, lower = CHANCES[place % len(CHANCES)]
            p = Fraction(upper, lower)
            for times in (1 + place % 6, 1 + (place + 3) % 6):
                each = oracle.yes_at(1 - (1 - p) ** times)
                anew = 1 - (1 - oracle.yes_at(p)) ** times
                found = last(("begin", bits), ("told", yes), ("tries", upper, lower, times))
                self.assertEqual(found, [0] + fraction(each) + fraction(anew), (bits, yes, upper, lower, times))

    def test_over_all_chances(self):
        for place, (bits, yes) in enumerate(some_answers()):
            oracle = Oracle(bits, yes)
            d = LOWERS[place % len(LOWERS)]
            slopes = [oracle.slope(Fraction(a, d)) for a in range(d + 1)]
            fixed = [a for a in range(d + 1) if oracle.yes_at(Fraction(a, d)) == Fraction(a, d)]
            found = said(("begin", bits), ("told", yes), ("half", d), ("steepest", d), ("fixed", d))[2:]
            self.assertEqual(found, [
                least(oracle, d, Fraction(1, 2)),
                [slopes.index(max(slopes))] + fraction(max(slopes)),
                [len(fixed)] + fixed,
            ], (bits, yes, d))

    def test_width(self):
        for place, (bits, yes) in enumerate(some_answers()):
            oracle = Oracle(bits, yes)
            d = LOWERS[place % len(LOWERS)]
            for low, high, whole in ((0, 1, 1), (1, 3, 4), (2, 2, 5), (0, 0, 3)):
                start = oracle.least_for(d, Fraction(low, whole))
                end = oracle.least_for(d, Fraction(high, whole))
                due = [-33] if start is None or end is None else [end - start, start, end]
                self.assertEqual(last(("begin", bits), ("told", yes), ("width", d, low, high, whole)), due,
                                 (bits, yes, d, low, high, whole))


class Refused(unittest.TestCase):
    def test_chances_that_are_none(self):
        for upper, lower in NOTHING_RIGHT:
            found = said(("begin", 2), ("yes", upper, lower), ("swayat", 1, upper, lower), ("slope", upper, lower),
                         ("tries", upper, lower, 1))
            self.assertEqual(found[1:], [[-22]] * 4, (upper, lower))

    def test_chances_at_their_edge(self):
        for upper, lower in ((0, 1), (1, 1), (0, 100), (100, 100), (99, 100), (1, 100)):
            p = Fraction(upper, lower)
            found = said(("begin", 1), ("bit", 0), ("yes", upper, lower), ("swayat", 0, upper, lower),
                         ("slope", upper, lower), ("tries", upper, lower, 1))
            due = [[0] + fraction(p), [0, 1, 1], [0, 1, 1], [0] + fraction(p) + fraction(p)]
            self.assertEqual(found[2:], due, (upper, lower))

    def test_numbers_that_chances_are_told_by(self):
        made = [("begin", 1), ("bit", 0)]
        for d in (0, 101, 102, HUGE):
            found = said(*made, ("half", d), ("steepest", d), ("fixed", d), ("width", d, 0, 1, 2))
            self.assertEqual(found[2:], [[-22]] * 4, d)
        for d in (1, 100):
            found = said(*made, ("half", d), ("steepest", d), ("fixed", d), ("width", d, 0, 1, 1))
            self.assertEqual(found[2:], [[(d + 1) // 2], [0, 1, 1], [d + 1] + list(range(d + 1)), [d, 0, d]])

    def test_width(self):
        made = [("begin", 1), ("bit", 0)]
        wrong = [(5, 0, 0, 0), (5, 0, 1, 101), (5, 0, 3, 2), (5, 3, 3, 2), (5, 2, 1, 2), (5, 1, 0, 2), (5, 3, 1, 2),
                 (0, 0, 1, 2), (101, 0, 1, 2), (5, HUGE, HUGE, HUGE)]
        for given in wrong:
            self.assertEqual(last(*made, ("width", *given)), [-22], given)
        self.assertEqual(said(*made, ("width", 5, 1, 1, 2), ("width", 5, 0, 100, 100), ("width", 1, 1, 1, 1))[2:],
                         [[0, 3, 3], [5, 0, 5], [0, 1, 1]])

    def test_width_wrong_ahead_of_none(self):
        self.assertEqual(said(("begin", 2), ("width", 4, 2, 1, 2), ("width", 4, 1, 2, 2), ("width", 4, 0, 2, 2),
                              ("width", 4, 0, 0, 2))[1:], [[-22], [-33], [-33], [0, 0, 0]])

    def test_tries(self):
        for times in (0, 7, 8, HUGE):
            self.assertEqual(last(("begin", 1), ("bit", 0), ("tries", 1, 2, times)), [-22], times)
        for times in (1, 6):
            due = fraction(1 - Fraction(1, 2) ** times)
            self.assertEqual(last(("begin", 1), ("bit", 0), ("tries", 1, 2, times)), [0] + due + due)

    def test_bits_ahead_of_chances(self):
        for bits in range(1, 6):
            found = said(("begin", bits), ("swayat", bits, 2, 1), ("swayat", bits, 1, 2), ("swayat", bits - 1, 2, 1),
                         ("swayat", bits - 1, 1, 2), ("swayat", HUGE, 0, 0))
            self.assertEqual(found[1:], [[-2], [-2], [-22], [0, 0, 1], [-2]])


class AtAChance(unittest.TestCase):
    def test_the_most_of_three(self):
        self.assertEqual(said(*MAJORITY, ("yes", 1, 4), ("swayat", 2, 1, 4), ("slope", 1, 4), ("sizes",))[2:],
                         [[0, 5, 32], [0, 3, 8], [0, 9, 8], [4, 0, 0, 3, 1]])

    def test_never_and_always_set(self):
        made = [("begin", 5), ("told", [0])]
        self.assertEqual(said(*made, ("yes", 0, 3), ("yes", 3, 3), ("swayat", 4, 0, 1), ("swayat", 4, 1, 1))[2:],
                         [[0, 1, 1], [0, 0, 1], [0, 1, 1], [0, 0, 1]])

    def test_slope_where_a_power_is_of_0(self):
        self.assertEqual(said(("begin", 1), ("bit", 0), ("slope", 0, 1), ("slope", 1, 1), ("not",), ("slope", 0, 1),
                              ("slope", 1, 1))[2:], [[0, 1, 1], [0, 1, 1], [1], [0, -1, 1], [0, -1, 1]])
        self.assertEqual(said(("begin", 5), ("told", [1, 2]), ("slope", 0, 1), ("told", [15]), ("slope", 1, 1),
                              ("slope", 0, 1), ("not",), ("slope", 1, 1))[2:],
                         [[0, 2, 1], [1], [0, -1, 1], [0, 0, 1], [31], [0, 1, 1]])

    def test_a_slope_down(self):
        self.assertEqual(said(*MAJORITY, ("not",), ("slope", 1, 2), ("slope", 1, 4), ("steepest", 4))[3:],
                         [[0, -3, 2], [0, -9, 8], [0, 0, 1]])
        self.assertEqual(last(("begin", 2), ("told", [0, 1]), ("steepest", 5)), [0, -1, 1])

    def test_sizes(self):
        self.assertEqual(said(("begin", 5), ("sizes",), ("not",), ("sizes",), ("told", [31, 16, 17, 0]), ("sizes",))[1:],
                         [[6, 0, 0, 0, 0, 0, 0], [32], [6, 1, 5, 10, 10, 5, 1], [4], [6, 1, 1, 1, 0, 0, 1]])
        self.assertEqual(said(("begin", 1), ("bit", 0), ("sizes",))[2:], [[2, 0, 1]])

    def test_tries_each_and_together(self):
        self.assertEqual(last(("begin", 2), ("told", [3]), ("tries", 1, 2, 2)), [0, 9, 16, 7, 16])
        self.assertEqual(last(("begin", 2), ("told", [1, 2, 3]), ("tries", 1, 2, 2)), [0, 15, 16, 15, 16])
        self.assertEqual(last(("begin", 2), ("told", [0]), ("tries", 1, 2, 3)), [0, 1, 64, 37, 64])
        self.assertEqual(last(("begin", 2), ("told", [0]), ("tries", 0, 9, 3)), [0, 1, 1, 1, 1])


class OverAllChances(unittest.TestCase):
    def test_half_is_reached_or_passed(self):
        self.assertEqual(said(*MAJORITY, ("half", 1), ("half", 2), ("half", 3), ("half", 100))[2:],
                         [[1], [1], [2], [50]])

    def test_half_is_the_least_though_it_falls_behind(self):
        self.assertEqual(last(("begin", 2), ("odd", 3), ("half", 10)), [5])
        self.assertEqual(last(("begin", 2), ("told", [0]), ("half", 10)), [0])

    def test_half_may_not_be_there(self):
        self.assertEqual(said(("begin", 2), ("half", 10), ("odd", 3), ("half", 1), ("half", 2), ("told", [1]),
                              ("half", 100))[1:], [[-33], [2], [-33], [1], [1], [-33]])

    def test_half_wrong_ahead_of_none(self):
        self.assertEqual(said(("begin", 2), ("half", 0), ("half", 101), ("half", 100))[1:], [[-22], [-22], [-33]])

    def test_width_of_what_is_never_so_likely(self):
        self.assertEqual(said(("begin", 2), ("odd", 3), ("width", 10, 1, 2, 4), ("width", 10, 1, 3, 4),
                              ("width", 10, 3, 4, 4))[2:], [[3, 2, 5], [-33], [-33]])

    def test_steepest_is_the_first_of_like_ones(self):
        self.assertEqual(last(*MAJORITY, ("steepest", 3)), [1, 4, 3])
        self.assertEqual(last(*MAJORITY, ("steepest", 1)), [0, 0, 1])
        self.assertEqual(last(("begin", 3), ("bit", 2), ("steepest", 100)), [0, 1, 1])
        self.assertEqual(last(("begin", 2), ("told", [3]), ("steepest", 7)), [7, 2, 1])

    def test_fixed(self):
        self.assertEqual(last(*MAJORITY, ("fixed", 2)), [3, 0, 1, 2])
        self.assertEqual(last(("begin", 3), ("bit", 1), ("fixed", 4)), [5, 0, 1, 2, 3, 4])
        self.assertEqual(said(("begin", 5), ("fixed", 100), ("not",), ("fixed", 100), ("odd", 31), ("fixed", 100))[1:],
                         [[1, 0], [32], [1, 100], [16], [3, 0, 50, 100]])
        self.assertEqual(last(("begin", 1), ("told", [0]), ("fixed", 3)), [0])


if __name__ == "__main__":
    unittest.main()

import unittest

from tests.helper import HUGE, bits_of, last, said


def state(*calls):
    """The words to which it says yes behind these calls."""
    return last(*calls, ("state",))[1:]


class Begin(unittest.TestCase):
    def test_one_to_five_bits(self):
        for bits in range(1, 6):
            found = said(("begin", bits), ("state",), ("mean",))
            self.assertEqual(found, [[0], [bits], [0, 0, 1]])

    def test_refused(self):
        for bits in (0, 6, 32, HUGE):
            self.assertEqual(said(("begin", bits)), [[-22]])

    def test_the_chance_is_one_by_ten(self):
        self.assertEqual(last(("begin", 1), ("heard", 0, 1)), [0, 1, 10])

    def test_it_begins_anew(self):
        found = said(("begin", 3), ("odd", 5), ("chance", 1, 2), ("begin", 2), ("state",), ("heard", 0, 1))
        self.assertEqual(found[3:], [[0], [2], [0, 9, 100]])

    def test_refused_it_leaves_all(self):
        found = said(("begin", 2), ("odd", 3), ("begin", 6), ("state",))
        self.assertEqual(found, [[0], [2], [-22], [2, 1, 2]])


class Told(unittest.TestCase):
    def test_yes_to_those_alone(self):
        found = said(("begin", 3), ("told", [6, 1]), ("state",), ("told", [0, 7, 3]), ("state",))
        self.assertEqual(found[1:], [[2], [3, 1, 6], [3], [3, 0, 3, 7]])

    def test_a_word_told_twice_is_one_word(self):
        self.assertEqual(said(("begin", 2), ("told", [3, 3, 0, 3]), ("state",))[1:], [[2], [2, 0, 3]])

    def test_none(self):
        self.assertEqual(said(("begin", 2), ("odd", 1), ("told", []), ("state",))[2:], [[0], [2]])

    def test_all_words(self):
        self.assertEqual(said(("begin", 5), ("told", list(range(32))))[1], [32])
        self.assertEqual(said(("begin", 1), ("told", [0, 1]))[1], [2])

    def test_thirty_two_numbers_at_most(self):
        self.assertEqual(last(("begin", 1), ("told", [1] * 32)), [1])
        self.assertEqual(last(("begin", 1), ("told", [1] * 33)), [-22])
        self.assertEqual(last(("begin", 5), ("told", list(range(32)) + [0])), [-22])

    def test_words_at_their_edge(self):
        for bits in range(1, 6):
            self.assertEqual(last(("begin", bits), ("told", [2 ** bits - 1])), [1])
            self.assertEqual(last(("begin", bits), ("told", [2 ** bits])), [-22])
            self.assertEqual(last(("begin", bits), ("told", [0, 2 ** bits, 0])), [-22])


class Least(unittest.TestCase):
    def test_the_most_of_three(self):
        self.assertEqual(said(("begin", 3), ("least", 2, [1, 1, 1]), ("state",))[1:], [[4], [3, 3, 5, 6, 7]])

    def test_numbers_stand_for_bits_in_order(self):
        self.assertEqual(state(("begin", 3), ("least", 5, [5, 0, 4])), [1, 3, 5, 7])
        self.assertEqual(state(("begin", 3), ("least", 5, [1, 2, 4])), [5, 6, 7])

    def test_nothing_asked_is_always_met(self):
        self.assertEqual(last(("begin", 2), ("least", 0, [0, 0])), [4])
        self.assertEqual(last(("begin", 2), ("least", 1, [0, 0])), [0])

    def test_much_asked(self):
        self.assertEqual(last(("begin", 5), ("least", 45, [9] * 5)), [1])
        self.assertEqual(last(("begin", 5), ("least", 46, [9] * 5)), [0])
        self.assertEqual(last(("begin", 5), ("least", HUGE, [9] * 5)), [0])

    def test_numbers_from_0_to_9(self):
        self.assertEqual(last(("begin", 2), ("least", 9, [9, 0])), [2])
        self.assertEqual(last(("begin", 2), ("least", 9, [10, 0])), [-22])
        self.assertEqual(last(("begin", 2), ("least", 9, [0, 10])), [-22])

    def test_a_number_for_each_bit(self):
        for bits in range(1, 6):
            for size in range(8):
                refused = last(("begin", bits), ("least", 1, [1] * size)) == [-22]
                self.assertEqual(refused, size != bits, (bits, size))

    def test_one_and_five_bits(self):
        self.assertEqual(state(("begin", 1), ("least", 1, [1])), [1])
        heavy = [word for word in range(32) if sum([1, 2, 3, 4, 5][bit] for bit in bits_of(word)) >= 9]
        self.assertEqual(state(("begin", 5), ("least", 9, [1, 2, 3, 4, 5])), heavy)


class Odd(unittest.TestCase):
    def test_every_set(self):
        for bits in range(1, 6):
            for chosen in range(2 ** bits):
                odd = [word for word in range(2 ** bits) if len(bits_of(word) & bits_of(chosen)) % 2 == 1]
                found = said(("begin", bits), ("odd", chosen), ("state",))
                self.assertEqual(found[1:], [[len(odd)], [bits] + odd])

    def test_no_bits_are_met_evenly(self):
        self.assertEqual(last(("begin", 3), ("odd", 0)), [0])

    def test_sets_at_their_edge(self):
        for bits in range(1, 6):
            self.assertEqual(last(("begin", bits), ("odd", 2 ** bits - 1)), [2 ** bits // 2])
            self.assertEqual(last(("begin", bits), ("odd", 2 ** bits)), [-22])


class Bit(unittest.TestCase):
    def test_every_bit(self):
        for bits in range(1, 6):
            for bit in range(bits):
                found = said(("begin", bits), ("not",), ("bit", bit), ("state",))
                self.assertEqual(found[2], [2 ** bits // 2])
                self.assertEqual(found[3][1:], [word for word in range(2 ** bits) if bit in bits_of(word)])
            self.assertEqual(last(("begin", bits), ("bit", bits)), [-2])


class Not(unittest.TestCase):
    def test_yes_to_the_others(self):
        self.assertEqual(said(("begin", 3), ("told", [0, 2, 7]), ("not",), ("state",))[2:],
                         [[5], [3, 1, 3, 4, 5, 6]])

    def test_twice(self):
        self.assertEqual(state(("begin", 2), ("told", [1]), ("not",), ("not",)), [1])

    def test_none_and_all(self):
        self.assertEqual(said(("begin", 1), ("not",), ("not",))[1:], [[2], [0]])


class Turn(unittest.TestCase):
    def test_every_bit(self):
        self.assertEqual(state(("begin", 3), ("told", [0, 1, 6]), ("turn", 0)), [0, 1, 7])
        self.assertEqual(state(("begin", 3), ("told", [0, 1, 6]), ("turn", 1)), [2, 3, 4])
        self.assertEqual(state(("begin", 3), ("told", [0, 1, 6]), ("turn", 2)), [2, 4, 5])

    def test_to_how_many(self):
        self.assertEqual(last(("begin", 3), ("told", [0, 1, 6]), ("turn", 2)), [3])

    def test_twice(self):
        self.assertEqual(state(("begin", 5), ("told", [3, 9, 31]), ("turn", 4), ("turn", 4)), [3, 9, 31])

    def test_bits_at_their_edge(self):
        for bits in range(1, 6):
            self.assertEqual(last(("begin", bits), ("told", [0]), ("turn", bits - 1), ("ask", 2 ** (bits - 1))), [1])
            self.assertEqual(last(("begin", bits), ("turn", bits)), [-2])


class Set(unittest.TestCase):
    def test_one_word_alone(self):
        found = said(("begin", 2), ("told", [1]), ("set", 2, 1), ("state",), ("set", 1, 0), ("state",))
        self.assertEqual(found[2:], [[2], [2, 1, 2], [1], [2, 2]])

    def test_as_it_was(self):
        found = said(("begin", 2), ("told", [1]), ("set", 1, 1), ("set", 0, 0), ("state",))
        self.assertEqual(found[2:], [[1], [1], [2, 1]])

    def test_edges(self):
        for bits in range(1, 6):
            self.assertEqual(last(("begin", bits), ("set", 2 ** bits - 1, 1)), [1])
            self.assertEqual(last(("begin", bits), ("set", 2 ** bits, 1)), [-22])
        self.assertEqual(last(("begin", 2), ("set", 0, 2)), [-22])
        self.assertEqual(last(("begin", 2), ("set", 4, 2)), [-22])


class State(unittest.TestCase):
    def test_how_many_bits_then_the_words(self):
        self.assertEqual(last(("begin", 4), ("told", [15, 0, 9]), ("state",)), [4, 0, 9, 15])
        self.assertEqual(last(("begin", 5), ("not",), ("state",)), [5] + list(range(32)))
        self.assertEqual(last(("begin", 1), ("state",)), [1])


if __name__ == "__main__":
    unittest.main()

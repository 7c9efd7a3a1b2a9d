import unittest
from fractions import Fraction

from tests.helper import HUGE, bits_of, fraction, last, said

ALL = [("state",), ("heard", 0, 1), ("shelf",)]
EMPTY = [0, -1, -1, -1, -1]


class Back(unittest.TestCase):
    def test_nothing_to_take_back(self):
        self.assertEqual(said(("begin", 1), ("back",), ("mean",), ("shelf",), ("back",))[1:],
                         [[-6], [0, 0, 1], EMPTY, [-6]])

    def test_each_call_that_changes(self):
        made = [("begin", 2), ("told", [1]), ("put", 0), ("told", [2, 3]), ("chance", 1, 3)]
        due = [[2, 2, 3], [0, 2, 9], [1, 1, -1, -1, -1]]
        for call in (("told", [3]), ("least", 1, [1, 1]), ("odd", 3), ("bit", 0), ("not",), ("turn", 1), ("set", 0, 1),
                     ("chance", 1, 2), ("put", 0), ("put", 3), ("take", 0), ("join", 0, 0), ("join", 1, 0),
                     ("join", 2, 0)):
            found = said(*made, call, *ALL, ("back",), *ALL)
            self.assertNotEqual(found[6:9], due, call)
            self.assertEqual(found[9:], [[4], *due], call)

    def test_each_call_that_leaves_all_as_it_was(self):
        made = [("begin", 2), ("told", [1, 3]), ("put", 0), ("chance", 1, 3)]
        for call in (("told", [3, 1, 1]), ("least", 1, [1, 0]), ("odd", 1), ("bit", 0), ("turn", 1), ("set", 1, 1),
                     ("set", 0, 0), ("chance", 1, 3), ("chance", 6, 18), ("put", 0), ("take", 0), ("join", 0, 0),
                     ("join", 1, 0)):
            found = said(*made, call, *ALL, ("back",), *ALL)
            self.assertEqual(found[5:], [[2, 1, 3], [0, 2, 9], [1, 2, -1, -1, -1], [2], [2, 1, 3], [0, 9, 100],
                                         [1, 2, -1, -1, -1]], call)

    def test_joined_with_no_to_all(self):
        self.assertEqual(said(("begin", 2), ("put", 1), ("odd", 3), ("join", 2, 1), ("join", 1, 1), ("back",))[3:],
                         [[2], [2], [1]])

    def test_a_chance_of_0_told_otherwise(self):
        self.assertEqual(said(("begin", 1), ("chance", 0, 1), ("chance", 0, 20), ("back",), ("back",))[2:],
                         [[0], [0], [-6]])

    def test_ten_changes_and_an_eleventh_that_is_not_kept(self):
        for changes in (9, 10, 11, 12, 20):
            made = [("set", word, 1) for word in range(changes)]
            found = said(("begin", 5), *made, *[("back",)] * 11, ("state",))
            kept = min(changes, 10)
            self.assertEqual(found[1 + changes:-1], [[left] for left in reversed(range(kept))] + [[-6]] * (11 - kept))
            self.assertEqual(found[-1], [5] + list(range(changes - kept)))

    def test_what_was_no_change_takes_no_room(self):
        made = [("set", word, 1) for word in range(10)]
        none = [("set", 0, 1), ("told", [32]), ("put", 4), ("state",), ("chance", 1, 10), ("turn", 5)] * 2
        found = said(("begin", 5), *made, *none, *[("back",)] * 11, ("state",))
        self.assertEqual(found[23:], [[left] for left in reversed(range(10))] + [[-6], [5]])

    def test_changed_anew_behind_it(self):
        found = said(("begin", 2), ("told", [0]), ("told", [1]), ("told", [2]), ("back",), ("back",), ("told", [3]),
                     ("back",), ("state",), ("back",), ("state",), ("back",))
        self.assertEqual(found[4:], [[2], [1], [1], [1], [2, 0], [0], [2], [-6]])

    def test_it_is_no_change_itself(self):
        self.assertEqual(said(("begin", 2), ("not",), ("back",), ("back",), ("state",))[2:], [[0], [-6], [2]])

    def test_to_an_empty_shelf(self):
        found = said(("begin", 2), ("put", 1), ("put", 2), ("back",), ("back",), ("shelf",), ("take", 1), ("best", 0))
        self.assertEqual(found[3:], [[1], [0], EMPTY, [-6], [-6]])

    def test_what_stood_there_stands_there_anew(self):
        found = said(("begin", 2), ("told", [1]), ("put", 3), ("told", [2]), ("put", 3), ("back",), ("take", 3),
                     ("state",))
        self.assertEqual(found[4:], [[1], [3], [1], [2, 1]])

    def test_a_begin_leaves_nothing(self):
        for bits in range(1, 6):
            self.assertEqual(said(("begin", 2), ("not",), ("put", 0), ("begin", bits), ("back",), *ALL)[4:],
                             [[-6], [bits], [0, *fraction(Fraction(9, 10) ** (bits - 1) / 10)], EMPTY])

    def test_a_begin_refused_leaves_what_can_be(self):
        for bits in (0, 6, HUGE):
            self.assertEqual(said(("begin", 2), ("not",), ("put", 0), ("begin", bits), ("back",), ("back",),
                                  *ALL)[3:], [[-22], [1], [0], [2], [0, 9, 100], EMPTY])

    def test_refusals_are_no_changes(self):
        self.assertEqual(last(("begin", 5), ("not",), ("rounds",), ("wins", 3), ("half", 0), ("take", 0), ("best", 5),
                              ("back",)), [0])


class Model:
    """The same object by its words alone: sets of yes words, and whole copies of what was."""

    def __init__(self, bits):
        self.bits = bits
        self.words = range(2 ** bits)
        self.now = (frozenset(), Fraction(1, 10), {})
        self.past = []

    def change(self, yes, chance, shelf):
        if (yes, chance, shelf) != self.now:
            self.past = (self.past + [self.now])[-10:]
            self.now = (yes, chance, shelf)

    def answer(self, yes):
        self.change(frozenset(yes), self.now[1], self.now[2])
        return [len(self.now[0])]

    def put(self, place):
        stood = place in self.now[2]
        self.change(self.now[0], self.now[1], {**self.now[2], place: self.now[0]})
        return [int(stood)]

    def called(self, name, given):
        yes, chance, shelf = self.now
        if name == "told":
            return self.answer(given[0])
        if name == "not":
            return self.answer(set(self.words) - yes)
        if name == "turn":
            flipped = [bits_of(word) ^ {given[0]} for word in yes]
            return self.answer(sum(2 ** bit for bit in one) for one in flipped)
        if name == "set":
            return self.answer(yes | {given[0]} if given[1] else yes - {given[0]})
        if name == "chance":
            self.change(yes, Fraction(*given), shelf)
            return [0]
        if name == "put":
            return self.put(given[0])
        if name in ("take", "join") and given[-1] not in shelf:
            return [-6]
        if name == "take":
            return self.answer(shelf[given[0]])
        if name == "join":
            other = shelf[given[1]]
            return self.answer([yes & other, yes | other, yes ^ other][given[0]])
        if name == "back" and not self.past:
            return [-6]
        if name == "back":
            self.now = self.past.pop()
            return [len(self.past)]
        if name == "state":
            return [self.bits] + sorted(yes)
        if name == "heard":
            return [0] + fraction((1 - chance) ** self.bits)
        counts = [len(shelf[place]) if place in shelf else -1 for place in range(4)]
        return [len(shelf)] + counts


def some_calls(seed, bits):
    """Calls as they come, by a row of numbers that is the same each time."""
    calls = []
    for step in range(40):
        seed = (seed * 1103515245 + 12345) % 2 ** 31
        rest = seed >> 8
        word, place, one = rest % 2 ** bits, rest // 32 % 4, rest // 128 % 2
        calls.append([
            ("told", [word, (word * 3) % 2 ** bits]), ("not",), ("turn", word % bits), ("set", word, one),
            ("chance", one, 2 + place), ("put", place), ("put", place), ("take", place), ("take", place % 2),
            ("join", word % 3, place), ("back",), ("back",), ("back",), ("state",), ("heard", word, word), ("shelf",),
        ][rest // 256 % 16])
    return calls + [("state",), ("heard", 0, 0), ("shelf",), ("back",), ("back",), ("state",), ("shelf",)]


class ByTheWords(unittest.TestCase):
    def test_all_sorts_of_lines(self):
        for seed in range(200):
            bits = seed % 5 + 1
            calls = some_calls(seed, bits)
            model = Model(bits)
            due = [model.called(name, given) for name, *given in calls]
            self.assertEqual(said(("begin", bits), *calls)[1:], due, (seed, calls))


if __name__ == "__main__":
    unittest.main()

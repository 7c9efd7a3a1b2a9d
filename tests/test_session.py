import unittest

from swaybits.desk import answers
from tests.helper import EVERY_CALL, HUGE, NAMES, last, line, said

# Each call that can be refused behind a begin with 3 bits, and its refusal.
REFUSED = [
    (("begin", 0), -22), (("begin", 6), -22),
    (("told", [8]), -22), (("told", [0] * 33), -22), (("least", 1, [1, 1]), -22), (("odd", 8), -22),
    (("bit", 3), -2), (("turn", 3), -2), (("set", 8, 1), -22), (("set", 0, 2), -22),
    (("ask", 8), -22), (("sway", 3), -2), (("part", 8), -22),
    (("chance", 2, 3), -22), (("chance", 0, 0), -22), (("heard", 8, 0), -22), (("heard", 0, 8), -22),
    (("soft", 8), -22), (("ifchance", 2, 3), -22),
    (("vote", [0, 0]), -22), (("vote", [0, 0, 6]), -22), (("winner", [0] * 4), -22), (("winner", [6, 0, 0]), -22),
    (("order", []), -22), (("order", [0, 6, 0]), -22), (("wins", 3), -22), (("whose",), -33),
    (("yes", 1, 0), -22), (("yes", 2, 1), -22), (("swayat", 3, 1, 2), -2), (("swayat", 3, 2, 1), -2),
    (("swayat", 2, 2, 1), -22), (("slope", 1, 101), -22), (("half", 0), -22), (("width", 101, 1, 1, 2), -22),
    (("tries", 1, 2, 7), -22), (("steepest", 101), -22), (("fixed", 0), -22),
    (("put", 4), -2), (("take", 4), -2), (("take", 0), -6), (("join", 0, 4), -2), (("join", 3, 0), -22),
    (("join", 0, 0), -6), (("same", 4), -2), (("same", 0), -6), (("more", 0, 4), -2), (("more", 4, 0), -22),
    (("more", 0, 0), -6), (("best", 4), -22), (("best", 0), -6),
]
STATE = [("state",), ("heard", 0, 1), ("shelf",)]


class Interface(unittest.TestCase):
    def test_numbers_are_told_behind_how_many(self):
        self.assertEqual(answers([0, 3]), [1, 0])
        self.assertEqual(answers([0, 3, 2, 2, 3, 1, 1, 1, 10, 0, 25]),
                         [1, 0, 1, 4, 3, 0, 1, 2, 3, 0, 108, 125])
        self.assertEqual(answers([0, 2, 1, 2, 3, 1, 21, 22, 1, 4, 8, 9]),
                         [1, 0, 1, 2, 3, 2, 1, 3, 1, 0, 1, -22])

    def test_each_call_stands_for_its_number(self):
        self.assertEqual(len(NAMES), 57)
        self.assertEqual([NAMES.index(name) for name in ("begin", "state", "ifchance", "vote", "put", "back")],
                         [0, 21, 28, 29, 49, 56])

    def test_an_empty_list_has_no_numbers_behind_its_count(self):
        self.assertEqual(answers([0, 1, 1, 0, 21, 2, 0, 0, 5]), [1, 0, 1, 0, 1, 1, 1, -22, 1, 2])

    def test_a_long_list_is_gone_past(self):
        self.assertEqual(said(("begin", 1), ("told", [HUGE] * 255), ("least", 0, [0] * 255), ("state",)),
                         [[0], [-22], [-22], [1]])

    def test_fifty_calls(self):
        calls = [("begin", 5)] + [("not",), ("mean",)] * 24 + [("state",)]
        found = said(*calls)
        self.assertEqual(found[1:49], [[32], [0, 1, 1], [0], [0, 0, 1]] * 12)
        self.assertEqual(found[49], [5])

    def test_what_is_handed_in_stays(self):
        handed = line(("begin", 3), ("told", [5, 3, 3, 1]), ("least", 4, [9, 0, 4]), ("set", 0, 1),
                      ("turn", 1), ("not",), ("chance", 2, 8), ("told", [9]), ("parts",), ("worst",),
                      ("vote", [5, 0, 3]), ("winner", [1, 1, 6]), ("order", [4, 2, 4]), ("put", 1), ("not",),
                      ("join", 1, 1), ("back",), ("first",), ("tries", 3, 7, 6), ("best", 3), ("back",))
        before = list(handed)
        first = answers(handed)
        self.assertEqual(handed, before)
        self.assertEqual(answers(handed), first)

    def test_every_line_is_a_new_object(self):
        said(("begin", 4), ("odd", 3), ("chance", 1, 2), ("put", 2))
        self.assertEqual(said(("state",), ("shelf",), ("back",), ("begin", 4), *STATE, ("back",)),
                         [[-11], [-11], [-11], [0], [4], [0, 729, 10000], [0, -1, -1, -1, -1], [-6]])


class BeforeBegin(unittest.TestCase):
    def test_every_other_call(self):
        self.assertEqual([NAMES.index(call[0]) for call in EVERY_CALL], list(range(1, 57)))
        self.assertEqual(said(*EVERY_CALL[:28]), [[-11]] * 28)
        self.assertEqual(said(*EVERY_CALL[28:]), [[-11]] * 28)

    def test_every_other_call_is_read_to_its_end(self):
        # No call has such a number, so that one read short or long is found out.
        for name, *given in EVERY_CALL:
            far = [[9999] * 3 if isinstance(one, list) else 9999 for one in given]
            self.assertEqual(said((name, *far), ("told", [])), [[-11], [-11]], name)

    def test_it_comes_ahead_of_other_refusals(self):
        for call, refusal in REFUSED:
            if call[0] != "begin":
                self.assertEqual(last(call), [-11], call)

    def test_a_begin_that_is_refused_begins_nothing(self):
        for bits in (0, 6, HUGE):
            for calls in (EVERY_CALL[:28], EVERY_CALL[28:]):
                found = said(("begin", bits), *calls)
                self.assertEqual(found, [[-22]] + [[-11]] * 28)

    def test_calls_ahead_of_begin_leave_nothing(self):
        found = said(("told", [1]), ("chance", 1, 2), ("put", 0), ("begin", 1), *STATE, ("back",))
        self.assertEqual(found, [[-11], [-11], [-11], [0], [1], [0, 1, 10], [0, -1, -1, -1, -1], [-6]])


class Refusals(unittest.TestCase):
    def test_each_is_its_number_alone_and_changes_nothing(self):
        made = [("begin", 3), ("told", [1, 2, 6]), ("chance", 1, 4)]
        for call, refusal in REFUSED:
            found = said(*made, call, *STATE, ("back",))
            due = [[refusal], [3, 1, 2, 6], [0, 9, 64], [0, -1, -1, -1, -1], [1]]
            self.assertEqual(found[3:], due, call)

    def test_with_something_on_the_shelf(self):
        made = [("begin", 3), ("told", [1, 2, 6]), ("put", 3), ("bit", 1)]
        for call, refusal in REFUSED:
            if call != ("whose",) and call != ("best", 0):
                found = said(*made, call, *STATE, ("back",), ("back",))
                due = [[refusal], [3, 2, 3, 6, 7], [0, 81, 1000], [1, -1, -1, -1, 3], [2], [1]]
                self.assertEqual(found[4:], due, call)

    def test_huge_arguments(self):
        calls = [("told", [HUGE]), ("least", 0, [HUGE, 0, 0]), ("odd", HUGE), ("bit", HUGE), ("turn", HUGE),
                 ("set", HUGE, 0), ("set", 0, HUGE), ("ask", HUGE), ("sway", HUGE), ("part", HUGE),
                 ("chance", HUGE, HUGE), ("chance", 0, HUGE), ("chance", HUGE, 20), ("heard", HUGE, 0),
                 ("heard", 0, HUGE), ("soft", HUGE), ("ifchance", 1, HUGE),
                 ("vote", [HUGE] * 3), ("winner", [0, 0, HUGE]), ("order", [HUGE, 0, 0]), ("wins", HUGE),
                 ("yes", 0, HUGE), ("yes", HUGE, 100), ("yes", HUGE, HUGE), ("swayat", HUGE, 1, 2),
                 ("swayat", 0, HUGE, 2), ("slope", 1, HUGE), ("half", HUGE), ("width", HUGE, 1, 1, 2),
                 ("width", 2, 1, HUGE, 2), ("width", 2, HUGE, HUGE, 2), ("width", 2, 1, 1, HUGE),
                 ("tries", 1, 2, HUGE), ("tries", HUGE, 2, 1), ("steepest", HUGE), ("fixed", HUGE),
                 ("put", HUGE), ("take", HUGE), ("join", 0, HUGE), ("join", HUGE, 0), ("same", HUGE),
                 ("more", HUGE, HUGE), ("more", HUGE, 0), ("best", HUGE)]
        no_such = [("bit", HUGE), ("turn", HUGE), ("sway", HUGE), ("swayat", HUGE, 1, 2), ("put", HUGE),
                   ("take", HUGE), ("join", 0, HUGE), ("same", HUGE), ("more", HUGE, HUGE)]
        for call in calls:
            refusal = -2 if call in no_such else -22
            self.assertEqual(last(("begin", 3), call), [refusal], call)

    def test_what_only_tells_changes_nothing(self):
        making = ("told", "least", "odd", "bit", "not", "turn", "set", "chance", "put", "take", "join", "back")
        for call in EVERY_CALL:
            if call[0] not in making:
                found = said(("begin", 1), ("bit", 0), ("put", 0), ("not",), ("chance", 1, 4), call, *STATE, ("back",))
                self.assertEqual(found[6:], [[1, 0], [0, 1, 4], [1, 1, -1, -1, -1], [3]], call)


if __name__ == "__main__":
    unittest.main()

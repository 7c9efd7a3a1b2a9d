import unittest

from swaybits.desk import answers
from tests.helper import BUILT, EVERY_CALL, HUGE, NAMES, last, line, said

# Each call that can be refused behind a begin with 3 bits, and its refusal.
REFUSED = [
    (("begin", 0), -22), (("begin", 6), -22),
    (("told", [8]), -22), (("told", [0] * 33), -22), (("least", 1, [1, 1]), -22), (("odd", 8), -22),
    (("bit", 3), -2), (("turn", 3), -2), (("set", 8, 1), -22), (("set", 0, 2), -22),
    (("ask", 8), -22), (("sway", 3), -2), (("part", 8), -22),
    (("chance", 2, 3), -22), (("chance", 0, 0), -22), (("heard", 8, 0), -22), (("heard", 0, 8), -22),
    (("soft", 8), -22), (("ifchance", 2, 3), -22),
]
STATE = [("state",), ("heard", 0, 1)]


class Interface(unittest.TestCase):
    def test_numbers_are_told_behind_how_many(self):
        self.assertEqual(answers([0, 3]), [1, 0])
        self.assertEqual(answers([0, 3, 2, 2, 3, 1, 1, 1, 10, 0, 25]),
                         [1, 0, 1, 4, 3, 0, 1, 2, 3, 0, 108, 125])
        self.assertEqual(answers([0, 2, 1, 2, 3, 1, 21, 22, 1, 4, 8, 9]),
                         [1, 0, 1, 2, 3, 2, 1, 3, 1, 0, 1, -22])

    def test_each_call_stands_for_its_number(self):
        self.assertEqual(len(NAMES), 57)
        self.assertEqual([NAMES.index(name) for name in ("begin", "state", "ifchance", "vote", "put", "back")],
                         [0, 21, 28, 29, 49, 56])

    def test_an_empty_list_has_no_numbers_behind_its_count(self):
        self.assertEqual(answers([0, 1, 1, 0, 21, 2, 0, 0, 5]), [1, 0, 1, 0, 1, 1, 1, -22, 1, 2])

    def test_a_long_list_is_gone_past(self):
        self.assertEqual(said(("begin", 1), ("told", [HUGE] * 255), ("least", 0, [0] * 255), ("state",)),
                         [[0], [-22], [-22], [1]])

    def test_fifty_calls(self):
        calls = [("begin", 5)] + [("not",), ("mean",)] * 24 + [("state",)]
        found = said(*calls)
        self.assertEqual(found[1:49], [[32], [0, 1, 1], [0], [0, 0, 1]] * 12)
        self.assertEqual(found[49], [5])

    def test_what_is_handed_in_stays(self):
        handed = line(("begin", 3), ("told", [5, 3, 3, 1]), ("least", 4, [9, 0, 4]), ("set", 0, 1),
                      ("turn", 1), ("not",), ("chance", 2, 8), ("told", [9]), ("parts",), ("worst",))
        before = list(handed)
        first = answers(handed)
        self.assertEqual(handed, before)
        self.assertEqual(answers(handed), first)

    def test_every_line_is_a_new_object(self):
        said(("begin", 4), ("odd", 3), ("chance", 1, 2))
        self.assertEqual(said(("state",), ("begin", 4), ("state",), ("heard", 0, 0)),
                         [[-11], [0], [4], [0, 6561, 10000]])


class BeforeBegin(unittest.TestCase):
    def test_every_other_call(self):
        self.assertEqual([NAMES.index(call[0]) for call in EVERY_CALL], list(range(1, 57)))
        self.assertEqual(said(*EVERY_CALL[:28]), [[-11]] * 28)
        self.assertEqual(said(*EVERY_CALL[28:]), [[-11]] * 28)

    def test_every_other_call_is_read_to_its_end(self):
        # No call has such a number, so that one read short or long is found out.
        for name, *given in EVERY_CALL:
            far = [[9999] * 3 if isinstance(one, list) else 9999 for one in given]
            self.assertEqual(said((name, *far), ("told", [])), [[-11], [-11]], name)

    def test_it_comes_ahead_of_other_refusals(self):
        for call, refusal in REFUSED:
            if call[0] != "begin":
                self.assertEqual(last(call), [-11], call)

    def test_a_begin_that_is_refused_begins_nothing(self):
        for bits in (0, 6, HUGE):
            found = said(("begin", bits), *BUILT)
            self.assertEqual(found, [[-22]] + [[-11]] * 28)

    def test_calls_ahead_of_begin_leave_nothing(self):
        found = said(("told", [1]), ("chance", 1, 2), ("begin", 1), ("state",), ("heard", 0, 1))
        self.assertEqual(found, [[-11], [-11], [0], [1], [0, 1, 10]])


class Refusals(unittest.TestCase):
    def test_each_is_its_number_alone_and_changes_nothing(self):
        made = [("begin", 3), ("told", [1, 2, 6]), ("chance", 1, 4)]
        for call, refusal in REFUSED:
            found = said(*made, call, *STATE)
            self.assertEqual(found[3:], [[refusal], [3, 1, 2, 6], [0, 9, 64]], call)

    def test_huge_arguments(self):
        calls = [("told", [HUGE]), ("least", 0, [HUGE, 0, 0]), ("odd", HUGE), ("bit", HUGE), ("turn", HUGE),
                 ("set", HUGE, 0), ("set", 0, HUGE), ("ask", HUGE), ("sway", HUGE), ("part", HUGE),
                 ("chance", HUGE, HUGE), ("chance", 0, HUGE), ("chance", HUGE, 20), ("heard", HUGE, 0),
                 ("heard", 0, HUGE), ("soft", HUGE), ("ifchance", 1, HUGE)]
        refusals = [[-2] if call[0] in ("bit", "turn", "sway") else [-22] for call in calls]
        self.assertEqual(said(("begin", 3), *calls)[1:], refusals)

    def test_what_only_tells_changes_nothing(self):
        for call in BUILT[7:]:
            if call[0] != "chance":
                found = said(("begin", 3), ("told", [1, 6]), ("chance", 1, 4), call, *STATE)
                self.assertEqual(found[4:], [[3, 1, 6], [0, 9, 64]], call)


if __name__ == "__main__":
    unittest.main()

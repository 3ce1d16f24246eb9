"""How calls and answers stand in lists, and -11 (the interface, the calls, the rows ahead of point 1)."""

import unittest

from linerooms.line import answers
from tests.helper import GREATEST, NAMES, ask, flat, last, line

# One of each call, as it may stand ahead of a begin.
EACH = (
    ("machine", 1, 5), ("drop",), ("chance", 0, 5), ("room", 0, 1), ("hour", [1]), ("empty",), ("out",),
    ("rate", 0), ("starved", 0), ("blocked", 0), ("mean", 0), ("full", 0), ("long", []), ("turn",), ("turned",),
    ("better", 0), ("more", 0), ("soon", 1), ("now",), ("state",),
)
WRONG = (
    ("machine", 0, 0), ("chance", GREATEST, 0), ("room", 7, 9), ("hour", []), ("hour", [2, 3, 4, 5, 6, 7]),
    ("rate", GREATEST), ("starved", 5), ("blocked", 4), ("long", [1, 2, 3, 4, 5, 6]), ("soon", 4),
)


class Frozen(list):
    """A list that tells when it is changed."""

    def forbidden(self, *told, **named):
        raise AssertionError("the list that was handed in is changed")

    append = clear = extend = insert = pop = remove = reverse = sort = forbidden
    __setitem__ = __delitem__ = __iadd__ = __imul__ = forbidden


class NotBegun(unittest.TestCase):
    def test_all_others_answer_11(self):
        self.assertEqual(sorted(name for name, *told in EACH), sorted(set(NAMES) - {"begin"}))
        for one in EACH + WRONG:
            self.assertEqual(ask(one), [[-11]], one)

    def test_all_in_one_list(self):
        self.assertEqual(ask(*EACH, *WRONG), [[-11]] * (len(EACH) + len(WRONG)))

    def test_a_refused_begin_is_none(self):
        for one in EACH + WRONG:
            self.assertEqual(ask(("begin", 0), one, ("begin", 10), one), [[-22], [-11], [-22], [-11]], one)

    def test_begun_behind_others(self):
        told = ask(("machine", 1, 5), ("begin", 5), ("machine", 1, 5), ("begin", 0), ("drop",))
        self.assertEqual(told, [[-11], [0], [1], [-22], [1]])


class Lists(unittest.TestCase):
    def test_calls_and_answers_number_by_number(self):
        calls = [7, 0, 5, 1, 1, 5, 5, 2, 1, 0, 5, 0, 6, 7, 8, 1, 9, 1, 10, 0, 3, 1, 4, 4, 0, 8, 2]
        told = [
            1, -11, 1, 0, 1, 1, 3, 0, 1, 0, 1, -22, 1, 1, 3, 0, 1, 3, 3, 0, 1, 3, 3, 0, 1, 6, 3, 0, 1, 6,
            1, 5, 1, 1, 1, 1,
        ]
        self.assertEqual(answers(calls), told)

    def test_what_is_handed_in_is_not_changed(self):
        calls = flat(line([3, 5, 7], [3, 2]) + [("hour", [1, 1, 1]), ("hour", [2]), ("room", 0, 1), ("out",), ("drop",)])
        kept = list(calls)
        told = answers(calls)
        self.assertEqual(calls, kept)
        self.assertEqual(answers(Frozen(kept)), told)

    def test_nothing_is_kept_from_one_time_to_the_next(self):
        calls = flat(line([3, 5, 7], [3, 2]) + [("hour", [1, 0, 0]), ("out",), ("blocked", 1)])
        first = answers(calls)
        self.assertEqual(answers([7]), [1, -11])
        self.assertEqual(answers(calls), first)
        first.append(5)
        self.assertEqual(answers(calls), first[:-1])
        self.assertEqual(answers([6]), [1, -11])

    def test_whole_numbers_alone(self):
        calls = line([3, 5, 7], [3, 2]) + [("hour", [1, 1, 1]), ("empty",), ("out",), ("starved", 0), ("drop",)]
        told = answers(flat(calls))
        self.assertIs(type(told), list)
        for one in told:
            self.assertIs(type(one), int)

    def test_no_other_number_is_below_0(self):
        calls = line([9, 1, 9, 1], [2, 2, 2]) + [("hour", [1, 1, 1, 1]), ("out",), ("starved", 3), ("blocked", 0)]
        for one in ask(*calls):
            self.assertGreaterEqual(min(one), 0)

    def test_a_refusal_is_its_number_alone(self):
        calls = line([5, 5], [8])
        wrong = [("rate", 2), ("drop",), ("drop",), ("begin", 0), ("hour", [1, 1]), ("machine", 0, 1)]
        self.assertEqual(answers(flat(calls + wrong))[4:], [1, -2, 1, 1, 1, -6, 1, -22, 1, -22, 1, -22])

    def test_400_calls(self):
        calls = line([1, 2, 3, 4], [2, 2, 2])
        for at in range(198):
            calls += [("chance", at % 4, 1 + at * at % 9), ("out",)]
        self.assertEqual(len(calls), 400)
        told = ask(*calls)
        self.assertEqual(len(told), 400)
        self.assertEqual({len(one) for one in told[5::2]}, {3})

    def test_the_longest_rows(self):
        self.assertEqual(last(line([1, 2], [2]), ("hour", [GREATEST] * 6)), [-22])


if __name__ == "__main__":
    unittest.main()

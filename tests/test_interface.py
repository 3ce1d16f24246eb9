"""How calls and answers stand in lists, and -11 (the interface, the calls, the rows ahead of point 1)."""

import contextlib
import io
import random
import unittest

from linerooms.line import answers
from tests.helper import FILLED, GREATEST, NAMES, SecondTelling, ask, flat, last, line

# One of each call, as it may stand ahead of a begin.
EACH = (
    ("machine", 1, 5), ("drop",), ("chance", 0, 5), ("room", 0, 1), ("hour", [1]), ("empty",), ("out",),
    ("rate", 0), ("starved", 0), ("blocked", 0), ("mean", 0), ("full", 0), ("long", []), ("turn",), ("turned",),
    ("better", 0), ("more", 0), ("soon", 1), ("now",), ("state",),
)
WRONG = (
    ("machine", 0, 0), ("chance", GREATEST, 0), ("room", 7, 9), ("hour", []), ("hour", [2, 3, 4, 5, 6, 7]),
    ("rate", GREATEST), ("starved", 5), ("blocked", 4), ("long", [1, 2, 3, 4, 5, 6]), ("soon", 4), ("mean", 3),
    ("full", GREATEST), ("better", 4), ("more", 3), ("soon", GREATEST), ("long", [GREATEST]),
)
# Each call once, the changes behind the questions.
ALL = FILLED + [
    ("state",), ("now",), ("soon", 3), ("out",), ("rate", 2), ("starved", 1), ("blocked", 1), ("mean", 0), ("full", 1),
    ("long", [2, 1]), ("turned",), ("better", 2), ("more", 0), ("hour", [1, 1, 1]), ("chance", 0, 9), ("empty",),
    ("room", 1, 1), ("turn",), ("state",), ("out",), ("drop",), ("now",),
]


class Frozen(list):
    """A list that tells when it is changed."""

    def forbidden(self, *told, **named):
        raise AssertionError("the list that was handed in is changed")

    append = clear = extend = insert = pop = remove = reverse = sort = forbidden
    __setitem__ = __delitem__ = __iadd__ = __imul__ = forbidden


class NotBegun(unittest.TestCase):
    def test_all_others_answer_11(self):
        self.assertEqual(sorted(name for name, *told in EACH), sorted(set(NAMES) - {"begin"}))
        for one in EACH + WRONG:
            self.assertEqual(ask(one), [[-11]], one)

    def test_all_in_one_list(self):
        self.assertEqual(ask(*EACH, *WRONG), [[-11]] * (len(EACH) + len(WRONG)))

    def test_a_refused_begin_is_none(self):
        for one in EACH + WRONG:
            self.assertEqual(ask(("begin", 0), one, ("begin", 10), one), [[-22], [-11], [-22], [-11]], one)

    def test_begun_behind_others(self):
        told = ask(("machine", 1, 5), ("begin", 5), ("machine", 1, 5), ("begin", 0), ("drop",))
        self.assertEqual(told, [[-11], [0], [1], [-22], [1]])


class Lists(unittest.TestCase):
    def test_calls_and_answers_number_by_number(self):
        calls = [7, 0, 5, 1, 1, 5, 5, 2, 1, 0, 5, 0, 6, 7, 8, 1, 9, 1, 10, 0, 3, 1, 4, 4, 0, 8, 2]
        told = [
            1, -11, 1, 0, 1, 1, 3, 0, 1, 0, 1, -22, 1, 1, 3, 0, 1, 3, 3, 0, 1, 3, 3, 0, 1, 6, 3, 0, 1, 6,
            1, 5, 1, 1, 1, 1,
        ]
        self.assertEqual(answers(calls), told)

    def test_the_other_calls_number_by_number(self):
        calls = [0, 5, 1, 1, 5, 20, 5, 2, 1, 0, 19, 18, 2, 11, 0, 12, 0, 13, 1, 0, 15, 16, 1, 17, 0, 14, 20, 19]
        told = [
            1, 0, 1, 1, 4, 2, 5, 5, 1, 3, 0, 1, 0, 2, 1, 1, 3, 0, 7, 8, 3, 0, 2, 3, 5, 0, 2, 3, 1, 3, 3, 0, 1, 3,
            5, 0, 1, 3, 1, 3, 5, 0, 3, 8, 1, 3, 5, 0, 2, 5, 1, 3, 1, 2, 4, 2, 5, 5, 1, 2, 0, 0,
        ]
        self.assertEqual(answers(calls), told)

    def test_refused_number_by_number(self):
        calls = [0, 9, 11, 0, 12, 0, 13, 1, 0, 16, 1, 16, 0, 17, 0, 18, 4, 13, 0, 13, 6, 1, 2, 3, 4, 5, 6, 19, 20]
        told = [1, 0, 1, -2, 1, -2, 1, -22, 1, -2, 1, -17, 1, -2, 1, -22, 3, 0, 1, 1, 1, -22, 1, 0, 2, 1, 9]
        self.assertEqual(answers(calls), told)

    def test_one_number_for_each_promised(self):
        told = [len(one) for one in ask(*ALL)[len(FILLED):]]
        self.assertEqual(told, [6, 3, 3, 3, 3, 3, 3, 3, 5, 3, 5, 5, 5, 4, 1, 1, 1, 1, 6, 3, 1, 2])

    def test_what_is_handed_in_is_not_changed(self):
        calls = flat(ALL + [("hour", [2]), ("long", [9, 9]), ("begin", 0)])
        kept = list(calls)
        told = answers(calls)
        self.assertEqual(calls, kept)
        self.assertEqual(answers(Frozen(kept)), told)

    def test_nothing_is_kept_from_one_time_to_the_next(self):
        calls = flat(ALL)
        first = answers(calls)
        self.assertEqual(answers([7]), [1, -11])
        self.assertEqual(answers(calls), first)
        first.append(5)
        self.assertEqual(answers(calls), first[:-1])
        self.assertEqual(answers([20]), [1, -11])
        self.assertEqual(answers([0, 4, 20, 19]), [1, 0, 2, 1, 4, 1, 0])

    def test_whole_numbers_alone(self):
        told = answers(flat(ALL))
        self.assertIs(type(told), list)
        for one in told:
            self.assertIs(type(one), int)

    def test_no_other_number_is_below_0(self):
        for one in ask(*ALL):
            self.assertGreaterEqual(min(one), 0)

    def test_nothing_is_printed(self):
        printed = io.StringIO()
        with contextlib.redirect_stdout(printed), contextlib.redirect_stderr(printed):
            answers(flat(ALL))
        self.assertEqual(printed.getvalue(), "")

    def test_a_refusal_is_its_number_alone(self):
        calls = line([5, 5], [8])
        wrong = [("rate", 2), ("drop",), ("drop",), ("begin", 0), ("hour", [1, 1]), ("machine", 0, 1)]
        self.assertEqual(answers(flat(calls + wrong))[4:], [1, -2, 1, 1, 1, -6, 1, -22, 1, -22, 1, -22])

    def test_400_calls(self):
        calls = line([1, 2, 3, 4], [2, 2, 2])
        for at in range(198):
            calls += [("chance", at % 4, 1 + at * at % 9), ("out",)]
        self.assertEqual(len(calls), 400)
        told = ask(*calls)
        self.assertEqual(len(told), 400)
        self.assertEqual({len(one) for one in told[5::2]}, {3})

    def test_400_calls_that_ask_for_much(self):
        calls = line([7, 3, 8, 1], [2, 2, 2])
        for at in range(79):
            calls += [("chance", at % 4, 1 + at * at % 8), ("better", 0), ("better", 3), ("turned",), ("soon", 3)]
        calls.append(("state",))
        self.assertEqual(len(calls), 400)
        told = ask(*calls)
        self.assertEqual(told[-1][0], 4)
        self.assertEqual({len(one) for one in told[5:399:5] + told[6:399:5] + told[7:399:5]}, {5})
        self.assertEqual({len(one) for one in told[8:399:5]}, {3})

    def test_the_longest_rows(self):
        self.assertEqual(last(line([1, 2], [2]), ("hour", [GREATEST] * 6)), [-22])
        self.assertEqual(last(line([1, 2], [2]), ("long", [GREATEST] * 6)), [-22])


class AnyList(unittest.TestCase):
    """Lists of calls in any order are answered as the words say."""

    def number(self, chosen, most):
        """Mostly one that fits, or one near it; now and then any other."""
        return chosen.choice((0, 9, 10, GREATEST)) if chosen.random() < 0.06 else chosen.randint(0, most)

    def call(self, chosen, name, count):
        """A call of that name, on a line of about so many machines."""
        if name == "begin":
            return (name, self.number(chosen, 9))
        if name == "machine":
            return (name, self.number(chosen, 3), self.number(chosen, 9))
        if name in ("chance", "room"):
            return (name, self.number(chosen, count), self.number(chosen, 9 if name == "chance" else 4))
        if name in ("rate", "starved", "blocked", "mean", "full", "better", "more"):
            return (name, self.number(chosen, count - 1))
        if name == "soon":
            return (name, self.number(chosen, 4))
        if name in ("hour", "long"):
            size = count if name == "hour" else count - 1
            if chosen.random() < 0.1:
                size = chosen.randint(0, 6)
            return (name, [self.number(chosen, 1) for place in range(size)])
        return (name,)

    def any_calls(self, chosen, size):
        """So many calls in any order; hours are many, begins few."""
        second = SecondTelling()
        calls, expected = [], []
        names = [name for name in NAMES if name != "begin"] + ["machine"] * 3 + ["hour"] * 12
        for at in range(size):
            name = "begin" if at == 1 or chosen.random() < 0.01 else chosen.choice(names)
            calls.append(self.call(chosen, name, max(1, len(second.chances))))
            expected.append(second.answer(*calls[-1]))
        return calls, expected

    def test_many_lists(self):
        chosen = random.Random(17)
        seen = set()
        for size in [1, 2, 3, 5, 8] * 10 + [60] * 60 + [400] * 5:
            calls, expected = self.any_calls(chosen, size)
            self.assertEqual(ask(*calls), expected, calls)
            seen |= {(call[0], told[0] if told[0] < 0 else "answered") for call, told in zip(calls, expected)}
        self.assertLessEqual({(name, "answered") for name in NAMES}, seen)
        words = (
            "begin -22 machine -22 machine -28 drop -6 chance -2 chance -22 room -2 room -22 room -28 hour -22 "
            "rate -2 starved -2 blocked -2 mean -2 full -2 long -22 better -2 better -17 more -2 more -28 soon -22"
        ).split()
        self.assertLessEqual({(name, int(told)) for name, told in zip(words[::2], words[1::2])}, seen)
        self.assertLessEqual({(name, -11) for name in NAMES[1:]}, seen)


if __name__ == "__main__":
    unittest.main()

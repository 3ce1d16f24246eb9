"""out, rate, starved, blocked (point 3), and what holds of them."""

import random
import unittest
from fractions import Fraction

from tests.helper import GREATEST, Refusing, ask, last, line, lines_of, long_run, told_as


def asked(chances, holds):
    """Of each machine the answers to rate, starved and blocked; and the answer to out."""
    calls = line(chances, holds)
    made = len(calls)
    for machine in range(len(chances)):
        calls += [("rate", machine), ("starved", machine), ("blocked", machine)]
    told = ask(*calls, ("out",))[made:]
    return [told[at:at + 3] for at in range(0, len(told) - 1, 3)], told[-1]


class ByHand(unittest.TestCase):
    def test_one_machine(self):
        for chance in range(1, 10):
            alone = told_as(Fraction(chance, 10))
            told = ask(("begin", chance), ("out",), ("rate", 0), ("starved", 0), ("blocked", 0))
            self.assertEqual(told[1:], [alone, alone, [0, 0, 1], [0, 0, 1]])

    def test_fractions_have_nothing_in_common(self):
        told = [last([("begin", chance)], ("out",)) for chance in (1, 2, 4, 5, 6, 8)]
        self.assertEqual(told, [[0, 1, 10], [0, 1, 5], [0, 2, 5], [0, 1, 2], [0, 3, 5], [0, 4, 5]])

    def test_two_alike_with_room_for_one(self):
        machines, out = asked([5, 5], [1])
        self.assertEqual(machines, [[[0, 1, 3], [0, 0, 1], [0, 1, 6]], [[0, 1, 3], [0, 1, 6], [0, 0, 1]]])
        self.assertEqual(out, [0, 1, 3])

    def test_two_alike(self):
        # All fillings but the empty one are there equally often, the empty one as much less as the chance is below 1.
        for chance in range(1, 10):
            for hold in range(1, 9):
                machines, out = asked([chance, chance], [hold])
                self.assertEqual(out, told_as(Fraction(chance * hold, 10 * hold + 10 - chance)))

    def test_any_two_machines(self):
        for first in range(1, 10):
            for second in range(1, 10):
                for hold in (1, 2, 3, 8):
                    self.any_two(Fraction(first, 10), Fraction(second, 10), hold)

    def any_two(self, first, second, hold):
        """A room alone goes up or down by one: each step up is made as often as the step down."""
        down = second * (1 - first)
        shares = [Fraction(1), first / down]
        while len(shares) <= hold:
            shares.append(shares[-1] * first * (1 - second) / down)
        whole = sum(shares)
        machines, out = asked([int(first * 10), int(second * 10)], [hold])
        self.assertEqual(out, told_as(second * (1 - shares[0] / whole)))
        self.assertEqual(machines[1][1], told_as(second * shares[0] / whole))
        self.assertEqual(machines[0][2], told_as(first * (1 - second) * shares[-1] / whole))

    def test_three_alike_with_room_for_one(self):
        # The fillings 00, 01, 10, 11 are there 1, 2, 4, 4 times of 11: each is come to as often as it is left.
        machines, out = asked([5, 5, 5], [1, 1])
        self.assertEqual(out, [0, 3, 11])
        self.assertEqual(machines[0], [[0, 3, 11], [0, 0, 1], [0, 5, 22]])
        self.assertEqual(machines[1], [[0, 3, 11], [0, 3, 22], [0, 1, 11]])
        self.assertEqual(machines[2], [[0, 3, 11], [0, 5, 22], [0, 0, 1]])


class ByASecondTelling(unittest.TestCase):
    def same(self, chances, holds):
        """The program tells the same as the helper, and what holds holds."""
        machines, out = asked(chances, holds)
        expected = [[told_as(one) for one in three] for three in long_run(chances, holds)]
        self.assertEqual(machines, expected, (chances, holds))
        for chance, three in zip(chances, machines):
            self.assertEqual(three[0], out)
            self.assertEqual(sum(Fraction(one[1], one[2]) for one in three), Fraction(chance, 10))
        self.assertEqual(machines[0][1], [0, 0, 1])
        self.assertEqual(machines[-1][2], [0, 0, 1])
        self.assertLessEqual(Fraction(out[1], out[2]), Fraction(min(chances), 10))

    def test_every_form_of_a_line(self):
        chosen = random.Random(3)
        for count in (1, 2, 3, 4):
            for holds in lines_of(count):
                self.same([chosen.randint(1, 9) for machine in range(count)], holds)

    def test_a_worst_machine_first_last_between(self):
        for holds in ([1, 1], [2, 1], [1, 4], [2, 2, 2], [1, 1, 1]):
            count = len(holds) + 1
            for worst in range(count):
                for low, high in ((1, 9), (4, 5)):
                    self.same([low if machine == worst else high for machine in range(count)], holds)

    def test_alike(self):
        for chance in (1, 5, 9):
            self.same([chance] * 3, [1, 1])
            self.same([chance] * 4, [1, 1, 1])

    def test_the_greatest_lines(self):
        for chances, holds in (([9, 1, 9, 1], [2, 2, 2]), ([7, 3, 9], [8, 2]), ([3, 7, 1], [2, 8]), ([1, 9], [8])):
            self.same(chances, holds)


class ByTheLineAsItIs(Refusing):
    def test_pieces_do_not_matter(self):
        calls = line([3, 5, 7], [3, 2])
        filled = calls + [("hour", [1, 1, 0])] * 5
        for wanted in (("out",), ("rate", 1), ("starved", 2), ("blocked", 0)):
            self.assertEqual(last(calls, wanted), last(filled, wanted))

    def test_asking_changes_nothing(self):
        calls = line([3, 5, 7], [3, 2]) + [("hour", [1, 1, 0])] * 5
        asks = [("out",), ("rate", 1), ("starved", 2), ("blocked", 0)] * 2
        after = [("hour", [1, 1, 1]), ("empty",), ("chance", 2, 1), ("room", 1, 1), ("drop",)]
        self.assertEqual(ask(*calls, *asks, *after)[-5:], ask(*calls, *after)[-5:])

    def test_each_change_is_seen(self):
        calls = line([3, 5, 7], [3, 2]) + [("out",)]
        changes = (
            (("chance", 0, 8), [8, 5, 7], [3, 2]),
            (("chance", 2, 1), [3, 5, 1], [3, 2]),
            (("room", 0, 1), [3, 5, 7], [1, 2]),
            (("room", 1, 5), [3, 5, 7], [3, 5]),
            (("machine", 1, 6), [3, 5, 7, 6], [3, 2, 1]),
            (("drop",), [3, 5], [3]),
            (("begin", 8), [8], []),
        )
        for change, chances, holds in changes:
            expected = [told_as(one) for one in long_run(chances, holds)[-1]]
            told = ask(*calls, change, ("out",), ("starved", len(holds)), ("blocked", len(holds)))
            self.assertEqual(told[-3:], expected, change)

    def test_a_change_and_back(self):
        calls = line([3, 5, 7], [3, 2])
        told = ask(*calls, ("out",), ("chance", 1, 9), ("out",), ("chance", 1, 5), ("out",), ("room", 0, 1), ("out",))
        self.assertEqual(told[3], told[7])
        self.assertNotEqual(told[3], told[5])
        self.assertNotEqual(told[3], told[9])

    def test_none_such(self):
        for name in ("rate", "starved", "blocked"):
            for machine in (3, 4, GREATEST):
                filled = line([3, 5, 7], [3, 2]) + [("hour", [1, 1, 0])] * 3
                self.refused(filled, (name, machine), -2, 3)
            self.refused([("begin", 3)], (name, 1), -2, 1)
            self.assertEqual(last(line([3, 5, 7], [3, 2]), ("drop",), (name, 2)), [-2])


if __name__ == "__main__":
    unittest.main()

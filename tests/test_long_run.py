"""out, rate, starved, blocked, mean, full, long (point 3)."""

import unittest
from fractions import Fraction

from tests.helper import (
    CHANGES, FILLED, GREATEST, SOME, Refusing, all_fillings, ask, fractions_of, last, line, long_run, long_shares,
    one_of_each_form, told_as,
)


def asked(chances, holds):
    """Of each machine the answers to rate, starved and blocked; and the answer to out."""
    calls = line(chances, holds)
    made = len(calls)
    for machine in range(len(chances)):
        calls += [("rate", machine), ("starved", machine), ("blocked", machine)]
    told = ask(*calls, ("out",))[made:]
    return [told[at:at + 3] for at in range(0, len(told) - 1, 3)], told[-1]


class ByHand(unittest.TestCase):
    def test_one_machine(self):
        for chance in range(1, 10):
            alone = told_as(Fraction(chance, 10))
            told = ask(("begin", chance), ("out",), ("rate", 0), ("starved", 0), ("blocked", 0))
            self.assertEqual(told[1:], [alone, alone, [0, 0, 1], [0, 0, 1]])

    def test_fractions_have_nothing_in_common(self):
        told = [last([("begin", chance)], ("out",)) for chance in (1, 2, 4, 5, 6, 8)]
        self.assertEqual(told, [[0, 1, 10], [0, 1, 5], [0, 2, 5], [0, 1, 2], [0, 3, 5], [0, 4, 5]])

    def test_two_alike_with_room_for_one(self):
        machines, out = asked([5, 5], [1])
        self.assertEqual(machines, [[[0, 1, 3], [0, 0, 1], [0, 1, 6]], [[0, 1, 3], [0, 1, 6], [0, 0, 1]]])
        self.assertEqual(out, [0, 1, 3])

    def test_two_alike(self):
        # All fillings but the empty one are there equally often, the empty one as much less as the chance is below 1.
        for chance in range(1, 10):
            for hold in range(1, 9):
                machines, out = asked([chance, chance], [hold])
                self.assertEqual(out, told_as(Fraction(chance * hold, 10 * hold + 10 - chance)))

    def test_any_two_machines(self):
        for first in range(1, 10):
            for second in range(1, 10):
                for hold in (1, 2, 3, 8):
                    self.any_two(Fraction(first, 10), Fraction(second, 10), hold)

    def any_two(self, first, second, hold):
        """A room alone goes up or down by one: each step up is made as often as the step down."""
        down = second * (1 - first)
        shares = [Fraction(1), first / down]
        while len(shares) <= hold:
            shares.append(shares[-1] * first * (1 - second) / down)
        whole = sum(shares)
        machines, out = asked([int(first * 10), int(second * 10)], [hold])
        self.assertEqual(out, told_as(second * (1 - shares[0] / whole)))
        self.assertEqual(machines[1][1], told_as(second * shares[0] / whole))
        self.assertEqual(machines[0][2], told_as(first * (1 - second) * shares[-1] / whole))

    def test_three_alike_with_room_for_one(self):
        # The fillings 00, 01, 10, 11 are there 1, 2, 4, 4 times of 11: each is come to as often as it is left.
        machines, out = asked([5, 5, 5], [1, 1])
        self.assertEqual(out, [0, 3, 11])
        self.assertEqual(machines[0], [[0, 3, 11], [0, 0, 1], [0, 5, 22]])
        self.assertEqual(machines[1], [[0, 3, 11], [0, 3, 22], [0, 1, 11]])
        self.assertEqual(machines[2], [[0, 3, 11], [0, 5, 22], [0, 0, 1]])


class ByASecondTelling(unittest.TestCase):
    def same(self, chances, holds):
        """The program tells the same as the helper, and what holds holds."""
        machines, out = asked(chances, holds)
        expected = [[told_as(one) for one in three] for three in long_run(chances, holds)]
        self.assertEqual(machines, expected, (chances, holds))
        for chance, three in zip(chances, machines):
            self.assertEqual(three[0], out)
            self.assertEqual(sum(Fraction(one[1], one[2]) for one in three), Fraction(chance, 10))
        self.assertEqual(machines[0][1], [0, 0, 1])
        self.assertEqual(machines[-1][2], [0, 0, 1])
        self.assertLessEqual(Fraction(out[1], out[2]), Fraction(min(chances), 10))

    def test_every_form_of_a_line(self):
        for chances, holds in one_of_each_form(3):
            self.same(chances, holds)

    def test_a_worst_machine_first_last_between(self):
        for holds in ([1, 1], [2, 1], [1, 4], [2, 2, 2], [1, 1, 1]):
            count = len(holds) + 1
            for worst in range(count):
                for low, high in ((1, 9), (4, 5)):
                    self.same([low if machine == worst else high for machine in range(count)], holds)

    def test_alike(self):
        for chance in (1, 5, 9):
            self.same([chance] * 3, [1, 1])
            self.same([chance] * 4, [1, 1, 1])

    def test_the_greatest_lines(self):
        for chances, holds in (([9, 1, 9, 1], [2, 2, 2]), ([7, 3, 9], [8, 2]), ([3, 7, 1], [2, 8]), ([1, 9], [8])):
            self.same(chances, holds)


class ByTheLineAsItIs(Refusing):
    def test_pieces_do_not_matter(self):
        calls = line([3, 5, 7], [3, 2])
        filled = calls + [("hour", [1, 1, 0])] * 5
        for wanted in (("out",), ("rate", 1), ("starved", 2), ("blocked", 0)):
            self.assertEqual(last(calls, wanted), last(filled, wanted))

    def test_asking_changes_nothing(self):
        calls = line([3, 5, 7], [3, 2]) + [("hour", [1, 1, 0])] * 5
        asks = [("out",), ("rate", 1), ("starved", 2), ("blocked", 0)] * 2
        after = [("hour", [1, 1, 1]), ("empty",), ("chance", 2, 1), ("room", 1, 1), ("drop",)]
        self.assertEqual(ask(*calls, *asks, *after)[-5:], ask(*calls, *after)[-5:])

    def test_each_change_is_seen(self):
        for change, chances, holds in CHANGES + ((("begin", 8), [8], []),):
            expected = [told_as(one) for one in long_run(chances, holds)[-1]]
            told = ask(*SOME, ("out",), change, ("out",), ("starved", len(holds)), ("blocked", len(holds)))
            self.assertEqual(told[-3:], expected, change)

    def test_a_change_and_back(self):
        calls = line([3, 5, 7], [3, 2])
        told = ask(*calls, ("out",), ("chance", 1, 9), ("out",), ("chance", 1, 5), ("out",), ("room", 0, 1), ("out",))
        self.assertEqual(told[3], told[7])
        self.assertNotEqual(told[3], told[5])
        self.assertNotEqual(told[3], told[9])

    def test_none_such(self):
        for name in ("rate", "starved", "blocked"):
            for machine in (3, 4, GREATEST):
                filled = line([3, 5, 7], [3, 2]) + [("hour", [1, 1, 0])] * 3
                self.refused(filled, (name, machine), -2, 3)
            self.refused([("begin", 3)], (name, 1), -2, 1)
            self.assertEqual(last(line([3, 5, 7], [3, 2]), ("drop",), (name, 2)), [-2])


class RoomsByHand(unittest.TestCase):
    def test_one_machine_has_one_filling(self):
        for chance in range(1, 10):
            told = ask(("begin", chance), ("long", []), ("mean", 0), ("full", 0), ("long", [0]))
            self.assertEqual(told[1:], [[0, 1, 1], [-2], [-2], [-22]])

    def test_two_alike_with_room_for_one(self):
        told = ask(*line([5, 5], [1]), ("mean", 0), ("full", 0), ("long", [0]), ("long", [1]))
        self.assertEqual(told[2:], [[0, 2, 3], [0, 2, 3, 1, 3], [0, 1, 3], [0, 2, 3]])

    def test_three_alike_with_room_for_one(self):
        # The fillings 00, 01, 10, 11 are there 1, 2, 4, 4 times of 11.
        told = ask(
            *line([5, 5, 5], [1, 1]), ("long", [0, 0]), ("long", [0, 1]), ("long", [1, 0]), ("long", [1, 1]),
            ("mean", 0), ("mean", 1), ("full", 0), ("full", 1),
        )
        self.assertEqual(told[3:7], [[0, 1, 11], [0, 2, 11], [0, 4, 11], [0, 4, 11]])
        self.assertEqual(told[7:], [[0, 8, 11], [0, 6, 11], [0, 8, 11, 3, 11], [0, 6, 11, 5, 11]])

    def test_any_two_machines(self):
        for first in range(1, 10):
            for second in range(1, 10):
                for hold in (1, 2, 3, 8):
                    self.any_two(first, second, hold)

    def any_two(self, first, second, hold):
        """A room alone goes up or down by one: each step up is made as often as the step down."""
        shares = [Fraction(1), Fraction(10 * first, second * (10 - first))]
        while len(shares) <= hold:
            shares.append(shares[-1] * Fraction(first * (10 - second), second * (10 - first)))
        shares = [share / sum(shares) for share in shares]
        calls = line([first, second], [hold])
        told = ask(*calls, ("mean", 0), ("full", 0), *[("long", [lies]) for lies in range(hold + 1)])[2:]
        self.assertEqual(told[0], told_as(sum(lies * share for lies, share in enumerate(shares))))
        self.assertEqual(told[1], told_as(shares[-1], shares[0]))
        self.assertEqual(told[2:], [told_as(share) for share in shares])


class RoomsByASecondTelling(unittest.TestCase):
    def same(self, chances, holds):
        """mean, full and long tell the same as the helper, and fit together."""
        shares = long_shares(chances, holds)
        calls = line(chances, holds)
        made = len(calls)
        for room in range(len(holds)):
            calls += [("mean", room), ("full", room)]
        told = ask(*calls, *[("long", list(filling)) for filling in shares])[made:]
        for room, hold in enumerate(holds):
            by_number = [
                sum(share for filling, share in shares.items() if filling[room] == lies) for lies in range(hold + 1)
            ]
            mean = sum(lies * share for lies, share in enumerate(by_number))
            self.assertEqual(told[2 * room], told_as(mean), (chances, holds, room))
            self.assertEqual(told[2 * room + 1], told_as(by_number[hold], by_number[0]), (chances, holds, room))
        longs = told[2 * len(holds):]
        self.assertEqual(longs, [told_as(share) for share in shares.values()], (chances, holds))
        self.assertEqual(sum(fractions_of(one)[0] for one in longs), 1)

    def test_every_form_of_a_line(self):
        for chances, holds in one_of_each_form(5):
            self.same(chances, holds)

    def test_a_worst_machine_first_last_between(self):
        for holds in ([1, 1], [1, 4], [1, 1, 1], [1, 2, 1]):
            count = len(holds) + 1
            for worst in range(count):
                self.same([2 if machine == worst else 7 for machine in range(count)], holds)

    def test_the_greatest_lines(self):
        for chances, holds in (([1, 9, 1, 9], [2, 2, 2]), ([9, 3, 7], [8, 2]), ([1, 7, 3], [2, 8]), ([9, 1], [8])):
            self.same(chances, holds)


class RoomsRefused(Refusing):
    def test_none_such(self):
        for name in ("mean", "full"):
            for room in (2, 3, GREATEST):
                self.refused(FILLED, (name, room), -2, 3)
            for room in (0, 1):
                self.refused([("begin", 3)], (name, room), -2, 1)
            self.assertEqual(last(FILLED, ("drop",), (name, 1)), [-2])

    def test_not_one_for_each_room(self):
        for filling in ([], [0], [3], [0, 0, 0], [2, 1, 0], [0] * 6, [GREATEST] * 6, [9]):
            self.refused(FILLED, ("long", filling), -22, 3)
        for filling in ([0], [1], [0, 0], [0] * 6):
            self.refused([("begin", 3)], ("long", filling), -22, 1)

    def test_more_than_a_room_holds(self):
        for filling in ([4, 0], [0, 3], [4, 3], [3, 3], [4, 2], [GREATEST, 0], [0, GREATEST]):
            self.refused(FILLED, ("long", filling), -22, 3)
        for hold in range(1, 9):
            self.assertEqual(last(line([3, 5], [hold]), ("long", [hold]))[0], 0)
            self.refused(line([3, 5], [hold]), ("long", [hold + 1]), -22, 2)

    def test_each_filling_of_the_rooms_is_there_and_no_other(self):
        for chances, holds in (([1, 9], [3]), ([9, 1, 9], [2, 3]), ([9, 1, 9, 1], [1, 2, 1])):
            within = all_fillings(holds)
            for filling in all_fillings([hold + 2 for hold in holds]):
                told = last(line(chances, holds), ("long", list(filling)))
                if filling in within:
                    self.assertGreater(fractions_of(told)[0], 0)
                else:
                    self.assertEqual(told, [-22])

    def test_the_rooms_as_they_are_now(self):
        self.assertEqual(last(FILLED, ("room", 0, 1), ("long", [2, 1])), [-22])
        self.assertEqual(last(FILLED, ("room", 0, 4), ("long", [4, 1]))[0], 0)
        self.assertEqual(last(FILLED, ("turn",), ("long", [3, 2])), [-22])
        self.assertEqual(last(FILLED, ("turn",), ("long", [2, 3]))[0], 0)
        self.assertEqual(last(FILLED, ("drop",), ("long", [3]))[0], 0)
        self.assertEqual(last(FILLED, ("machine", 1, 5), ("long", [3, 2])), [-22])

    def test_asking_changes_nothing(self):
        for one in (("mean", 0), ("mean", 1), ("full", 0), ("full", 1), ("long", [0, 0]), ("long", [3, 2])):
            self.asked_only(FILLED, one, 3)
        self.asked_only([("begin", 3)], ("long", []), 1)

    def test_pieces_do_not_matter(self):
        calls = line([3, 5, 7], [3, 2])
        for one in (("mean", 0), ("full", 1), ("long", [2, 1])):
            self.assertEqual(last(calls, one), last(FILLED, one))

    def test_each_change_is_seen(self):
        for change, chances, holds in CHANGES:
            shares = long_shares(chances, holds)
            mean = sum(share * filling[0] for filling, share in shares.items())
            empty = sum(share for filling, share in shares.items() if filling[0] == 0)
            full = sum(share for filling, share in shares.items() if filling[0] == holds[0])
            asks = [("mean", 0), ("full", 0), ("long", list(holds))]
            told = ask(*FILLED, ("mean", 0), ("full", 0), ("long", [3, 2]), change, *asks)[-3:]
            self.assertEqual(told, [told_as(mean), told_as(full, empty), told_as(shares[tuple(holds)])], change)


if __name__ == "__main__":
    unittest.main()

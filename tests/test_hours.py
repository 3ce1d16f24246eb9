"""hour, empty, now, soon (point 2)."""

import random
import unittest
from fractions import Fraction
from itertools import product

from tests.helper import (
    FILLED, GREATEST, Refusing, all_fillings, ask, come_to, comes_out, comes_soon, fractions_of, last, line, lines_of,
    long_shares, one_of_each_form, step, told_as,
)


def drained(count, held):
    """Hours that let each room in turn run dry, the last one first, past all it may hold: its pieces come out."""
    hours = []
    for room in reversed(range(count - 1)):
        for machine in list(range(room + 1, count)) * (held + 1):
            hours.append(("hour", [int(other == machine) for other in range(count)]))
    return hours


class EveryFilling(unittest.TestCase):
    """Each filling that rooms have place for is come to, and no other one ever is."""

    def rooms_after(self, calls, count, held):
        """What lies in each room behind these calls, counted by what comes out of them."""
        told = ask(*calls, *drained(count, held), ("empty",))
        self.assertEqual(told.pop(), [0])
        found = []
        at = len(calls)
        for room in reversed(range(count - 1)):
            size = (count - 1 - room) * (held + 1)
            found.insert(0, sum(one[0] for one in told[at:at + size]))
            at += size
        return tuple(found)

    def test_each_hour_from_each_filling(self):
        for holds in ((), (1,), (3,), (8,), (1, 1), (3, 2), (1, 1, 1), (2, 1, 2), (8, 2), (2, 2, 2)):
            count = len(holds) + 1
            made = line([5] * count, holds)
            for filling in all_fillings(holds):
                calls = made + come_to(filling)
                self.assertEqual(self.rooms_after(calls, count, max(holds, default=0)), filling)
                self.assertEqual(last(calls, ("now",)), [sum(filling), *filling])
                for ups in product((0, 1), repeat=count):
                    works, after = step(ups, holds, filling)
                    hour = ("hour", list(ups))
                    self.assertEqual(last(calls, hour), [works[-1]] + works, (holds, filling, ups))
                    self.assertEqual(self.rooms_after(calls + [hour], count, max(holds, default=0)), after)
                    self.assertEqual(last(calls, hour, ("now",)), [sum(after), *after])
                    self.assertTrue(all(0 <= lies <= hold for lies, hold in zip(after, holds)))


class Hour(Refusing):
    def test_one_machine(self):
        told = ask(("begin", 5), ("hour", [1]), ("hour", [0]), ("hour", [1]), ("empty",))
        self.assertEqual(told, [[0], [1, 1], [0, 0], [1, 1], [0]])

    def test_a_piece_goes_one_machine_an_hour(self):
        told = ask(*line([5, 5, 5], [1, 1]), *[("hour", [1, 1, 1])] * 4)
        self.assertEqual(told[3:], [[0, 1, 0, 0], [0, 1, 1, 0], [1, 1, 1, 1], [1, 1, 1, 1]])

    def test_the_room_counts_as_at_the_hours_beginning(self):
        told = ask(*line([5, 5], [2]), ("hour", [1, 1]), ("hour", [0, 1]), ("hour", [0, 1]))
        self.assertEqual(told[2:], [[0, 1, 0], [1, 0, 1], [0, 0, 0]])

    def test_none_up(self):
        calls = line([5, 5, 5], [2, 2]) + [("hour", [1, 0, 0])] * 2 + [("hour", [0, 1, 0])]
        told = ask(*calls, *[("hour", [0, 0, 0])] * 3, ("empty",))
        self.assertEqual(told[len(calls):], [[0, 0, 0, 0]] * 3 + [[2]])

    def test_a_full_room_while_the_next_one_works(self):
        calls = line([5, 5], [1]) + [("hour", [1, 0])]
        self.assertEqual(last(calls, ("hour", [1, 0])), [0, 0, 0])
        self.assertEqual(last(calls, ("hour", [1, 1])), [1, 1, 1])
        self.assertEqual(last(calls, ("hour", [1, 1]), ("empty",)), [1])
        self.assertEqual(last(calls, ("hour", [0, 1]), ("empty",)), [0])

    def test_all_rooms_full(self):
        calls = line([5, 5, 5, 5], [1, 1, 1])
        for machine in (0, 1, 2, 0, 1, 0):
            calls = calls + [("hour", [int(other == machine) for other in range(4)])]
        self.assertEqual(last(calls, ("empty",)), [3])
        self.assertEqual(last(calls, ("hour", [1, 1, 1, 1])), [1, 1, 1, 1, 1])
        self.assertEqual(last(calls, ("hour", [1, 1, 1, 0])), [0, 0, 0, 0, 0])
        self.assertEqual(last(calls, ("hour", [1, 1, 0, 1])), [1, 0, 0, 0, 1])
        self.assertEqual(last(calls, ("hour", [1, 0, 1, 1])), [1, 0, 0, 1, 1])

    def test_a_full_room_and_a_next_one_that_is_up_but_blocked(self):
        calls = line([5, 5, 5], [1, 1]) + [("hour", [1, 0, 0]), ("hour", [0, 1, 0]), ("hour", [1, 0, 0])]
        self.assertEqual(last(calls, ("hour", [1, 1, 0])), [0, 0, 0, 0])
        self.assertEqual(last(calls, ("hour", [1, 1, 1])), [1, 1, 1, 1])

    def test_many_hours_on_every_line(self):
        chosen = random.Random(1)
        for count in (1, 2, 3, 4):
            for holds in lines_of(count):
                hours = [[chosen.choice((0, 1, 1)) for machine in range(count)] for hour in range(120)]
                told = ask(*line([5] * count, holds), *[("hour", ups) for ups in hours], ("empty",))
                filling = (0,) * (count - 1)
                for ups, one in zip(hours, told[count:]):
                    works, filling = step(ups, holds, filling)
                    self.assertEqual(one, [works[-1]] + works, (holds, ups))
                self.assertEqual(told[-1], [sum(filling)])

    def test_pieces_are_not_lost(self):
        chosen = random.Random(2)
        for holds in ([8], [8, 2], [2, 2, 2], [1, 3, 2]):
            count = len(holds) + 1
            hours = [("hour", [chosen.choice((0, 1)) for machine in range(count)]) for hour in range(300)]
            told = ask(*line([5] * count, holds), *hours, ("empty",))
            put_in = sum(one[1] for one in told[count:-1])
            come_out = sum(one[0] for one in told[count:-1])
            self.assertEqual(told[-1], [put_in - come_out])

    def test_chances_do_not_matter_for_an_hour(self):
        for chance in range(1, 10):
            self.assertEqual(last(line([chance, chance], [1]), ("hour", [1, 1]), ("hour", [1, 1])), [1, 1, 1])

    def test_not_one_for_each(self):
        filled = line([3, 5, 7], [3, 2]) + [("hour", [1, 0, 0])] * 2
        for ups in ([], [1], [1, 1], [0, 0], [1, 1, 1, 1], [0] * 4, [1] * 6):
            self.refused(filled, ("hour", ups), -22, 3)
        for ups in ([], [1, 1], [0] * 6):
            self.refused([("begin", 3)], ("hour", ups), -22, 1)

    def test_one_above_1(self):
        filled = line([3, 5, 7], [3, 2]) + [("hour", [1, 0, 0])] * 2
        for ups in ([2, 1, 1], [1, 2, 1], [1, 1, 2], [0, 0, GREATEST], [GREATEST] * 3, [2, 2], [2] * 6):
            self.refused(filled, ("hour", ups), -22, 3)
        self.refused([("begin", 3)], ("hour", [2]), -22, 1)


class Empty(unittest.TestCase):
    def test_answers_how_many_lay_there(self):
        calls = line([3, 5, 7], [3, 2]) + [("hour", [1, 0, 0])] * 3 + [("hour", [0, 1, 0])]
        self.assertEqual(ask(*calls, ("empty",), ("empty",))[-2:], [[3], [0]])

    def test_all_rooms_are_empty(self):
        calls = line([3, 5, 7], [3, 2]) + [("hour", [1, 1, 0])] * 4 + [("empty",)]
        self.assertEqual(last(calls, ("hour", [0, 1, 1])), [0, 0, 0, 0])
        self.assertEqual(last(calls, ("hour", [1, 1, 1])), [0, 1, 0, 0])

    def test_one_machine_has_no_room(self):
        self.assertEqual(ask(("begin", 5), ("hour", [1]), ("empty",)), [[0], [1, 1], [0]])

    def test_machines_and_rooms_stay(self):
        told = ask(*line([3, 5], [4]), ("hour", [1, 0]), ("empty",), ("chance", 1, 1), ("room", 0, 1), ("drop",))
        self.assertEqual(told[3:], [[1], [5], [4], [1]])

    def test_a_full_greatest_line(self):
        calls = line([5, 5], [8]) + [("hour", [1, 0])] * 9
        self.assertEqual(last(calls, ("empty",)), [8])


class Now(Refusing):
    def test_one_machine_has_no_room(self):
        self.assertEqual(ask(("begin", 5), ("now",), ("hour", [1]), ("now",)), [[0], [0], [1, 1], [0]])

    def test_all_then_each(self):
        self.assertEqual(last(FILLED, ("now",)), [3, 2, 1])
        self.assertEqual(last(line([5, 5], [8]) + come_to((8,)), ("now",)), [8, 8])
        self.assertEqual(last(line([5] * 4, [2, 2, 2]) + come_to((0, 1, 2)), ("now",)), [3, 0, 1, 2])

    def test_each_filling_of_each_line(self):
        for count in (2, 3, 4):
            for holds in lines_of(count):
                for filling in all_fillings(holds):
                    told = last(line([5] * count, holds) + come_to(filling), ("now",))
                    self.assertEqual(told, [sum(filling), *filling])

    def test_what_is_left_behind_each_change(self):
        changes = (
            (("begin", 8), [0]),
            (("machine", 1, 6), [3, 2, 1, 0]),
            (("drop",), [2, 2]),
            (("chance", 1, 9), [3, 2, 1]),
            (("room", 0, 3), [0, 0, 0]),
            (("room", 1, 1), [0, 0, 0]),
            (("turn",), [0, 0, 0]),
            (("empty",), [0, 0, 0]),
            (("hour", [0, 0, 0]), [3, 2, 1]),
            (("hour", [1, 1, 1]), [3, 2, 1]),
            (("hour", [1, 0, 0]), [4, 3, 1]),
            (("hour", [0, 1, 0]), [3, 1, 2]),
            (("hour", [0, 0, 1]), [2, 2, 0]),
        )
        for change, expected in changes:
            self.assertEqual(last(FILLED, ("now",), change, ("now",)), expected, change)

    def test_asking_changes_nothing(self):
        self.asked_only(FILLED, ("now",), 3)
        self.asked_only([("begin", 3)], ("now",), 1)


class Soon(Refusing):
    def test_no_hour_brings_nothing(self):
        for calls in ([("begin", 9)], FILLED, line([9, 9], [1]) + come_to((1,))):
            self.assertEqual(last(calls, ("soon", 0)), [0, 0, 1])

    def test_one_machine(self):
        for chance in range(1, 10):
            for hours in range(4):
                told = last([("begin", chance)], ("soon", hours))
                self.assertEqual(told, told_as(Fraction(chance * hours, 10)))

    def test_two_machines_by_hand(self):
        empty = line([5, 5], [1])
        full = empty + come_to((1,))
        self.assertEqual(ask(*empty, *[("soon", hours) for hours in range(4)])[2:], [
            [0, 0, 1], [0, 0, 1], [0, 1, 4], [0, 9, 16],
        ])
        # Of the full room's four cases two bring a piece, and one of these leaves the room empty.
        self.assertEqual(ask(*full, *[("soon", hours) for hours in range(4)])[3:], [
            [0, 0, 1], [0, 1, 2], [0, 7, 8], [0, 39, 32],
        ])

    def test_it_counts_from_the_filling_that_is_there_now(self):
        for chances, holds in (([3, 8], [4]), ([3, 5, 7], [3, 2]), ([9, 1, 4], [1, 1]), ([2, 9, 5, 7], [1, 2, 1])):
            for filling in all_fillings(holds):
                told = ask(*line(chances, holds), *come_to(filling), *[("soon", hours) for hours in range(4)])[-4:]
                expected = [told_as(comes_soon(chances, holds, filling, hours)) for hours in range(4)]
                self.assertEqual(told, expected, (chances, holds, filling))

    def test_every_line_there_may_be(self):
        chosen = random.Random(4)
        for chances, holds in one_of_each_form(10):
            filling = chosen.choice(all_fillings(holds))
            told = ask(*line(chances, holds), *come_to(filling), ("soon", 1), ("soon", 2), ("soon", 3))[-3:]
            expected = [told_as(comes_soon(chances, holds, filling, hours)) for hours in (1, 2, 3)]
            self.assertEqual(told, expected, (chances, holds, filling))

    def test_the_greatest_line_full(self):
        for chances, holds in (([9, 1, 9, 1], [2, 2, 2]), ([1, 9, 1], [8, 2]), ([9, 9], [8])):
            told = last(line(chances, holds) + come_to(holds), ("soon", 3))
            self.assertEqual(told, told_as(comes_soon(chances, holds, holds, 3)))

    def test_by_the_long_runs_fillings_each_hour_brings_as_many(self):
        for chances, holds in (([3, 8], [2]), ([6, 2, 7], [2, 1])):
            for hours in range(4):
                brought = Fraction(0)
                for filling, share in long_shares(chances, holds).items():
                    told = last(line(chances, holds) + come_to(filling), ("soon", hours))
                    brought += share * fractions_of(told)[0]
                self.assertEqual(brought, hours * comes_out(chances, holds))

    def test_each_change_is_seen(self):
        told = ask(*FILLED, ("soon", 3), ("chance", 2, 1), ("soon", 3), ("hour", [0, 0, 1]), ("soon", 3))
        self.assertEqual(told[-5], told_as(comes_soon([3, 5, 7], [3, 2], [2, 1], 3)))
        self.assertEqual(told[-3], told_as(comes_soon([3, 5, 1], [3, 2], [2, 1], 3)))
        self.assertEqual(told[-1], told_as(comes_soon([3, 5, 1], [3, 2], [2, 0], 3)))

    def test_out_of_range(self):
        for hours in (4, 5, 27, GREATEST):
            self.refused(FILLED, ("soon", hours), -22, 3)
            self.refused([("begin", 3)], ("soon", hours), -22, 1)

    def test_asking_changes_nothing(self):
        for hours in range(4):
            self.asked_only(FILLED, ("soon", hours), 3)
            self.asked_only([("begin", 3)], ("soon", hours), 1)


if __name__ == "__main__":
    unittest.main()

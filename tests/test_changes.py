"""turned, better, more (point 4)."""

import unittest
from fractions import Fraction

from tests.helper import (
    CHANGES, FILLED, GREATEST, SOME, Refusing, all_fillings, ask, come_to, comes_out, fractions_of, last, line,
    one_of_each_form, told_as,
)


def raised(numbers, place):
    """The numbers, with the one at the place one higher."""
    return [number + (at == place) for at, number in enumerate(numbers)]


class Turned(Refusing):
    def test_one_machine(self):
        for chance in range(1, 10):
            alone = Fraction(chance, 10)
            self.assertEqual(last([("begin", chance)], ("turned",)), told_as(alone, alone))

    def test_by_hand(self):
        self.assertEqual(last(line([5, 5], [1]), ("turned",)), [0, 1, 3, 1, 3])
        self.assertEqual(last(line([5, 5, 5], [1, 1]), ("turned",)), [0, 3, 11, 3, 11])
        # With 1 and 9 tenths and room for one the room is full 10 times of 91, empty 81 times.
        self.assertEqual(last(line([1, 9], [1]), ("turned",)), [0, 9, 91, 9, 91])

    def test_every_form_of_a_line(self):
        for chances, holds in one_of_each_form(6):
            told = last(line(chances, holds), ("turned",))
            expected = told_as(comes_out(chances[::-1], holds[::-1]), comes_out(chances, holds))
            self.assertEqual(told, expected, (chances, holds))

    def test_as_out_tells_when_it_is_turned(self):
        for chances, holds in (([3, 8], [2]), ([1, 9, 4], [3, 1]), ([2, 5, 8, 3], [1, 2, 3])):
            told = ask(*line(chances, holds), ("turned",), ("out",), ("turn",), ("out",), ("turned",))[-5:]
            self.assertEqual(told[0], [0] + told[3][1:] + told[1][1:])
            self.assertEqual(told[4], [0] + told[1][1:] + told[3][1:])

    def test_asking_changes_nothing(self):
        self.asked_only(FILLED, ("turned",), 3)
        self.asked_only([("begin", 3)], ("turned",), 1)


class Better(Refusing):
    def test_one_machine(self):
        for chance in range(1, 9):
            told = last([("begin", chance)], ("better", 0))
            self.assertEqual(told, told_as(Fraction(chance + 1, 10), Fraction(chance, 10)))

    def test_so_already(self):
        self.refused([("begin", 9)], ("better", 0), -17, 1)
        chances = [9, 5, 9]
        calls = line(chances, [3, 2]) + come_to((2, 1))
        for machine in (0, 2):
            self.refused(calls, ("better", machine), -17, 3)
        self.assertEqual(last(calls, ("better", 1))[0], 0)

    def test_none_such(self):
        for machine in (3, 4, GREATEST):
            self.refused(FILLED, ("better", machine), -2, 3)
        self.refused([("begin", 3)], ("better", 1), -2, 1)
        self.assertEqual(last(FILLED, ("drop",), ("better", 2)), [-2])

    def test_none_such_is_told_first(self):
        self.refused([("begin", 9)], ("better", 1), -2, 1)
        self.refused(line([9] * 4, [2, 2, 2]), ("better", 4), -2, 4)

    def test_two_by_hand(self):
        # 5 and 6 tenths and room for one: empty 3 of 8, full 5 of 8; 6 tenths of these bring a piece.
        self.assertEqual(last(line([5, 5], [1]), ("better", 1)), [0, 3, 8, 1, 3])
        self.assertEqual(last(line([5, 5], [1]), ("better", 0)), [0, 3, 8, 1, 3])

    def test_every_form_of_a_line(self):
        for chances, holds in one_of_each_form(7):
            for machine, chance in enumerate(chances):
                told = last(line(chances, holds), ("better", machine))
                if chance == 9:
                    self.assertEqual(told, [-17])
                else:
                    after = comes_out(raised(chances, machine), holds)
                    self.assertEqual(told, told_as(after, comes_out(chances, holds)), (chances, holds, machine))

    def test_as_out_tells_when_it_is_so(self):
        for chances, holds in (([3, 8], [2]), ([1, 8, 4], [3, 1]), ([2, 5, 8, 3], [1, 2, 3])):
            for machine, chance in enumerate(chances):
                asks = [("better", machine), ("out",), ("chance", machine, chance + 1), ("out",)]
                told = ask(*line(chances, holds), *asks)[-4:]
                self.assertEqual(told[0], [0] + told[3][1:] + told[1][1:])

    def test_asking_changes_nothing(self):
        for machine in range(3):
            self.asked_only(FILLED, ("better", machine), 3)
        self.asked_only([("begin", 3)], ("better", 0), 1)
        self.assertEqual(last(FILLED, ("better", 1), ("chance", 1, 5)), [5])


class More(Refusing):
    def test_two_alike(self):
        for chance in range(1, 10):
            for hold in range(1, 8):
                told = last(line([chance, chance], [hold]), ("more", 0))
                before = Fraction(chance * hold, 10 * hold + 10 - chance)
                after = Fraction(chance * (hold + 1), 10 * (hold + 1) + 10 - chance)
                self.assertEqual(told, told_as(after, before))

    def test_a_room_that_holds_8(self):
        # Only fillings above 27 are refused, so a ninth piece is counted too.
        for chance in range(1, 10):
            told = last(line([chance, chance], [8]), ("more", 0))
            after, before = Fraction(9 * chance, 100 - chance), Fraction(8 * chance, 90 - chance)
            self.assertEqual(told, told_as(after, before))
        self.assertEqual(last(line([4, 5, 6], [8, 1]), ("more", 0)), told_as(
            comes_out([4, 5, 6], [9, 1]), comes_out([4, 5, 6], [8, 1])))
        self.assertEqual(last(line([4, 5, 6], [8, 1]), ("room", 0, 9)), [-22])

    def test_more_than_27_fillings(self):
        for chances, holds, room in (
            ([3, 5, 7], [8, 2], 0), ([3, 5, 7], [8, 2], 1), ([3, 5, 7], [4, 4], 0), ([3, 5, 7, 1], [2, 2, 2], 1),
            ([3, 5, 7, 1], [1, 1, 5], 0), ([3, 5, 7, 1], [1, 1, 5], 2),
        ):
            calls = line(chances, holds) + come_to([1] * len(holds))
            self.refused(calls, ("more", room), -28, len(chances))

    def test_just_27_fillings(self):
        for chances, holds, room in (
            ([3, 5, 7], [7, 2], 0), ([3, 5, 7], [2, 7], 1), ([3, 5, 7], [8, 1], 1), ([3, 5, 7, 1], [2, 1, 2], 1),
        ):
            told = last(line(chances, holds), ("more", room))
            self.assertEqual(told, told_as(comes_out(chances, raised(holds, room)), comes_out(chances, holds)))

    def test_none_such(self):
        for room in (2, 3, GREATEST):
            self.refused(FILLED, ("more", room), -2, 3)
        for room in (0, 1):
            self.refused([("begin", 3)], ("more", room), -2, 1)
        self.assertEqual(last(FILLED, ("drop",), ("more", 1)), [-2])

    def test_none_such_is_told_first(self):
        self.refused(line([3, 5, 7, 1], [2, 2, 2]), ("more", 3), -2, 4)
        self.refused(line([3, 5, 7], [8, 2]), ("more", 2), -2, 3)

    def test_every_form_of_a_line(self):
        for chances, holds in one_of_each_form(8):
            for room, hold in enumerate(holds):
                told = last(line(chances, holds), ("more", room))
                changed = raised(holds, room)
                if len(all_fillings(changed)) > 27:
                    self.assertEqual(told, [-28], (chances, holds, room))
                else:
                    after = comes_out(chances, changed)
                    self.assertEqual(told, told_as(after, comes_out(chances, holds)), (chances, holds, room))

    def test_as_out_tells_when_it_is_so(self):
        for chances, holds in (([3, 8], [2]), ([1, 8, 4], [3, 1]), ([2, 5, 8, 3], [1, 2, 2])):
            for room, hold in enumerate(holds):
                asks = [("more", room), ("out",), ("room", room, hold + 1), ("out",)]
                told = ask(*line(chances, holds), *asks)[-4:]
                self.assertEqual(told[0], [0] + told[3][1:] + told[1][1:])

    def test_asking_changes_nothing(self):
        for room in range(2):
            self.asked_only(FILLED, ("more", room), 3)
        self.asked_only(line([5, 5], [8]) + come_to((8,)), ("more", 0), 2)
        self.assertEqual(last(FILLED, ("more", 1), ("room", 1, 2)), [2])


class AllThree(unittest.TestCase):
    def test_pieces_do_not_matter(self):
        for one in (("turned",), ("better", 1), ("more", 0)):
            self.assertEqual(last(SOME, one), last(FILLED, one))

    def test_each_change_is_seen(self):
        asks = [("turned",), ("better", 0), ("more", 0)]
        for change, chances, holds in CHANGES:
            told = ask(*SOME, *asks, change, *asks)[-3:]
            as_it_is = comes_out(chances, holds)
            self.assertEqual(told[0], told_as(comes_out(chances[::-1], holds[::-1]), as_it_is), change)
            self.assertEqual(told[1], told_as(comes_out(raised(chances, 0), holds), as_it_is), change)
            if len(all_fillings(raised(holds, 0))) > 27:
                self.assertEqual(told[2], [-28], change)
            else:
                self.assertEqual(told[2], told_as(comes_out(chances, raised(holds, 0)), as_it_is), change)

    def test_the_second_fraction_is_out(self):
        for chances, holds in one_of_each_form(9):
            told = ask(*line(chances, holds), ("out",), ("turned",), ("better", 0), ("more", 0))[-4:]
            for one in told[1:]:
                if one[0] == 0:
                    self.assertEqual(fractions_of(one)[1:], fractions_of(told[0]))


if __name__ == "__main__":
    unittest.main()

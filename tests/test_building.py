"""begin, machine, drop, chance, room, turn, state (point 1)."""

import unittest

from tests.helper import (
    CHANGES, FILLED, GREATEST, SOME, Refusing, all_fillings, ask, come_to, last, line, lines_of, long_run, step,
    told_as,
)


class Begin(Refusing):
    def test_answers_0_for_each_chance(self):
        for chance in range(1, 10):
            self.assertEqual(ask(("begin", chance), ("chance", 0, 5)), [[0], [chance]])

    def test_there_is_one_machine_and_no_room(self):
        self.assertEqual(ask(("begin", 5), ("chance", 1, 5), ("room", 0, 1), ("drop",)), [[0], [-2], [-2], [-6]])

    def test_out_of_range(self):
        for chance in (0, 10, 11, GREATEST):
            self.assertEqual(ask(("begin", chance)), [[-22]])
            self.assertEqual(ask(("begin", chance), ("drop",), ("begin", 4)), [[-22], [-11], [0]])
            self.refused(FILLED, ("begin", chance), -22, 3)

    def test_a_second_begin_is_one_machine_again(self):
        told = ask(*FILLED, ("begin", 4), ("hour", [1]), ("empty",), ("out",), ("machine", 8, 5), ("chance", 0, 1))
        self.assertEqual(told[len(FILLED):], [[0], [1, 1], [0], [0, 2, 5], [1], [4]])

    def test_begun_again_with_the_same_chance(self):
        told = ask(*FILLED, ("begin", 3), ("rate", 0), ("rate", 1))
        self.assertEqual(told[len(FILLED):], [[0], [0, 3, 10], [-2]])


class Machine(Refusing):
    def test_answers_its_number(self):
        self.assertEqual(ask(*line([1, 2, 3, 4], [2, 2, 2])), [[0], [1], [2], [3]])

    def test_room_and_chance_are_as_told(self):
        for hold in range(1, 9):
            for chance in range(1, 10):
                told = ask(("begin", 5), ("machine", hold, chance), ("chance", 1, 1), ("room", 0, 1))
                self.assertEqual(told, [[0], [1], [chance], [hold]])

    def test_the_new_room_lies_ahead_of_the_new_machine(self):
        told = ask(*line([5, 5, 5], [3, 4]), ("room", 0, 1), ("room", 1, 1), ("room", 2, 1))
        self.assertEqual(told[3:], [[3], [4], [-2]])

    def test_the_new_room_is_empty_and_the_others_keep_their_pieces(self):
        calls = line([5, 5], [3]) + [("hour", [1, 0])] * 2 + [("machine", 2, 5)]
        self.assertEqual(last(calls, ("hour", [0, 0, 1])), [0, 0, 0, 0])
        self.assertEqual(last(calls, ("empty",)), [2])
        self.assertEqual(last(calls, ("hour", [0, 1, 1])), [0, 0, 1, 0])

    def test_out_of_range(self):
        wrong = [(0, 5), (9, 5), (1, 0), (1, 10), (0, 0), (GREATEST, 5), (1, GREATEST), (GREATEST, GREATEST)]
        for hold, chance in wrong:
            self.refused([("begin", 3)], ("machine", hold, chance), -22, 1)
            self.refused(FILLED, ("machine", hold, chance), -22, 3)

    def test_a_fifth_machine(self):
        calls = line([3, 5, 7, 2], [1, 1, 1]) + [("hour", [1, 0, 0, 0])]
        self.refused(calls, ("machine", 1, 5), -28, 4)

    def test_more_than_27_fillings(self):
        self.refused(line([3, 4], [6]), ("machine", 3, 5), -28, 2)
        self.refused(line([3, 4], [8]), ("machine", 8, 5), -28, 2)
        self.refused(line([3, 4, 5], [2, 2]), ("machine", 3, 5), -28, 3)
        self.refused(line([3, 4, 5], [8, 2]), ("machine", 1, 5), -28, 3)

    def test_just_27_fillings(self):
        for holds in ([8, 2], [2, 8], [2, 2, 2]):
            count = len(holds)
            self.assertEqual(last(line([5] * (count + 1), holds)), [count])

    def test_every_line_there_may_be(self):
        for count in (2, 3, 4):
            for holds in lines_of(count):
                self.assertEqual(last(line([5] * count, holds)), [count - 1], holds)

    def test_no_other_line(self):
        for one in range(1, 9):
            for two in range(1, 9):
                self.assertEqual(last(line([5] * 3, [one, two])), [2 if (one, two) in lines_of(3) else -28])

    def test_out_of_range_is_told_ahead_of_too_many(self):
        full = line([3, 5, 7, 2], [1, 1, 1])
        self.refused(full, ("machine", 1, 0), -22, 4)
        self.refused(full, ("machine", 9, 5), -22, 4)
        self.refused(line([3, 4], [8]), ("machine", 9, 5), -22, 2)
        self.refused(line([3, 4], [8]), ("machine", 8, 10), -22, 2)


class Drop(Refusing):
    def test_answers_how_many_there_are(self):
        told = ask(*line([1, 2, 3, 4], [2, 2, 2]), ("drop",), ("drop",), ("drop",), ("drop",))
        self.assertEqual(told[4:], [[3], [2], [1], [-6]])

    def test_only_one(self):
        self.refused([("begin", 3)], ("drop",), -6, 1)
        self.refused(line([3, 4], [2]) + [("drop",)], ("drop",), -6, 1)

    def test_the_last_machine_and_its_room_are_gone(self):
        told = ask(*FILLED, ("drop",), ("chance", 2, 5), ("room", 1, 1), ("chance", 1, 1), ("room", 0, 1))
        self.assertEqual(told[len(FILLED):], [[2], [-2], [-2], [5], [3]])

    def test_the_other_rooms_keep_their_pieces(self):
        self.assertEqual(last(FILLED, ("empty",)), [3])
        self.assertEqual(last(FILLED, ("drop",), ("empty",)), [2])

    def test_a_room_that_comes_again_is_empty(self):
        self.assertEqual(last(FILLED, ("drop",), ("machine", 2, 7), ("empty",)), [2])

    def test_the_fillings_of_a_dropped_room_count_no_more(self):
        self.assertEqual(last(line([3, 4], [8]), ("drop",), ("machine", 8, 5), ("machine", 2, 5)), [2])


class Chance(Refusing):
    def test_answers_what_it_was(self):
        calls = line([3, 5, 7], [3, 2])
        told = ask(*calls, ("chance", 1, 9), ("chance", 1, 1), ("chance", 1, 1), ("chance", 0, 2), ("chance", 2, 2))
        self.assertEqual(told[3:], [[5], [9], [1], [3], [7]])

    def test_that_is_its_chance(self):
        for chance in range(1, 10):
            self.assertEqual(ask(("begin", 5), ("chance", 0, chance), ("chance", 0, 5)), [[0], [5], [chance]])

    def test_the_pieces_stay(self):
        self.assertEqual(last(FILLED, ("chance", 1, 9), ("empty",)), [3])

    def test_none_such(self):
        for machine in (3, 4, GREATEST):
            self.refused(FILLED, ("chance", machine, 4), -2, 3)
        self.refused([("begin", 3)], ("chance", 1, 4), -2, 1)

    def test_out_of_range(self):
        for chance in (0, 10, GREATEST):
            for machine in range(3):
                self.refused(FILLED, ("chance", machine, chance), -22, 3)

    def test_none_such_is_told_first(self):
        for chance in (0, 10, GREATEST):
            self.refused(FILLED, ("chance", 3, chance), -2, 3)


class Room(Refusing):
    def test_answers_what_it_held(self):
        told = ask(*SOME, ("room", 0, 1), ("room", 0, 8), ("room", 0, 8), ("room", 1, 1), ("room", 1, 2))
        self.assertEqual(told[3:], [[3], [1], [8], [2], [1]])

    def test_answers_what_it_could_hold_whatever_lies_there(self):
        self.assertEqual(last(FILLED, ("room", 0, 4)), [3])
        self.assertEqual(last(FILLED, ("room", 1, 1)), [2])

    def test_all_rooms_are_empty(self):
        for wanted in (("room", 0, 2), ("room", 0, 3), ("room", 0, 4), ("room", 1, 1), ("room", 1, 2)):
            self.assertEqual(last(FILLED, wanted, ("empty",)), [0])
            self.assertEqual(last(FILLED, wanted, ("hour", [0, 1, 1])), [0, 0, 0, 0])

    def test_it_holds_so_many(self):
        for hold in range(1, 9):
            calls = line([5, 5], [4]) + [("room", 0, hold)] + [("hour", [1, 0])] * hold
            self.assertEqual(ask(*calls)[3:], [[0, 1, 0]] * hold)
            self.assertEqual(last(calls, ("hour", [1, 0])), [0, 0, 0])
            self.assertEqual(last(calls, ("empty",)), [hold])

    def test_none_such(self):
        for room in (2, 3, GREATEST):
            self.refused(FILLED, ("room", room, 1), -2, 3)
        self.refused([("begin", 3)], ("room", 0, 1), -2, 1)

    def test_out_of_range(self):
        for hold in (0, 9, GREATEST):
            for room in range(2):
                self.refused(FILLED, ("room", room, hold), -22, 3)

    def test_more_than_27_fillings(self):
        self.refused(line([3, 4, 5], [6, 2]), ("room", 1, 3), -28, 3)
        self.refused(FILLED, ("room", 1, 6), -28, 3)
        self.refused(line([3, 4, 5, 6], [2, 2, 2]), ("room", 1, 3), -28, 4)

    def test_just_27_fillings(self):
        self.assertEqual(last(line([3, 4, 5], [6, 2]), ("room", 0, 8)), [6])
        self.assertEqual(last(line([3, 4, 5], [8, 1]), ("room", 1, 2)), [1])
        self.assertEqual(last(line([3, 4, 5, 6], [2, 2, 1]), ("room", 2, 2)), [1])

    def test_which_refusal_is_told_first(self):
        greatest = line([3, 4, 5, 6], [2, 2, 2])
        self.refused(greatest, ("room", 3, 0), -2, 4)
        self.refused(greatest, ("room", 3, 8), -2, 4)
        self.refused(greatest, ("room", 3, 9), -2, 4)
        self.refused(greatest, ("room", 0, 9), -22, 4)


class Turn(Refusing):
    def test_answers_how_many_machines(self):
        for count in (1, 2, 3, 4):
            self.assertEqual(last(line([5] * count, [1] * (count - 1)), ("turn",)), [count])

    def test_machines_and_rooms_are_in_the_opposite_order(self):
        self.assertEqual(last(SOME, ("turn",), ("state",)), [3, 7, 5, 3, 2, 3])
        self.assertEqual(last(line([1, 2, 3, 4], [1, 2, 3]), ("turn",), ("state",)), [4, 4, 3, 2, 1, 3, 2, 1])
        self.assertEqual(last(line([8, 3], [5]), ("turn",), ("state",)), [2, 3, 8, 5])
        self.assertEqual(ask(("begin", 4), ("turn",), ("state",)), [[0], [1], [1, 4]])

    def test_every_line_there_may_be(self):
        for count in (1, 2, 3, 4):
            chances = [3, 9, 1, 6][:count]
            for holds in lines_of(count):
                told = ask(*line(chances, holds), ("turn",), ("state",), ("now",), ("turn",), ("state",))[count:]
                self.assertEqual(told[1], [count] + chances[::-1] + list(holds[::-1]))
                self.assertEqual(told[2], [0] * count)
                self.assertEqual(told[4], [count] + chances + list(holds))

    def test_all_rooms_are_empty(self):
        for filling in all_fillings([3, 2]):
            told = ask(*SOME, *come_to(filling), ("now",), ("turn",), ("now",), ("empty",))
            self.assertEqual(told[-4:], [[sum(filling), *filling], [3], [0, 0, 0], [0]])

    def test_turned_twice_it_is_as_before_but_empty(self):
        told = ask(*FILLED, ("turn",), ("turn",), ("state",), ("now",))
        self.assertEqual(told[-2:], [[3, 3, 5, 7, 3, 2], [0, 0, 0]])

    def test_hours_go_by_in_the_new_order(self):
        for holds in ([3, 2], [1, 4], [2, 1, 3]):
            count = len(holds) + 1
            filling = (0,) * (count - 1)
            hours = [[1] + [0] * (count - 1)] * 5 + [[1, 1] + [0] * (count - 2)] * 5 + [[1] * count] * 3
            told = ask(*line([5] * count, holds), ("turn",), *[("hour", ups) for ups in hours], ("now",))
            for ups, one in zip(hours, told[count + 1:]):
                works, filling = step(ups, holds[::-1], filling)
                self.assertEqual(one, [works[-1]] + works)
            self.assertEqual(told[-1], [sum(filling), *filling])

    def test_the_long_run_is_that_of_the_new_order(self):
        asks = [(name, machine) for machine in range(3) for name in ("rate", "starved", "blocked")]
        told = ask(*SOME, *asks, ("turn",), *asks)[-9:]
        self.assertEqual(told, [told_as(one) for three in long_run([7, 5, 3], [2, 3]) for one in three])

    def test_what_is_built_behind_it_stands_at_the_new_end(self):
        told = ask(*SOME, ("turn",), ("machine", 1, 9), ("state",), ("drop",), ("drop",), ("state",))
        self.assertEqual(told[3:], [[3], [3], [4, 7, 5, 3, 9, 2, 3, 1], [3], [2], [2, 7, 5, 2]])
        told = ask(*SOME, ("turn",), ("chance", 0, 1), ("room", 0, 1), ("state",))
        self.assertEqual(told[3:], [[3], [7], [2], [3, 1, 5, 3, 1, 3]])


class State(Refusing):
    def test_how_many_then_chances_then_rooms(self):
        self.assertEqual(ask(("begin", 4), ("state",)), [[0], [1, 4]])
        self.assertEqual(last(line([8, 3], [5]), ("state",)), [2, 8, 3, 5])
        self.assertEqual(last(SOME, ("state",)), [3, 3, 5, 7, 3, 2])
        self.assertEqual(last(line([1, 2, 3, 4], [1, 2, 3]), ("state",)), [4, 1, 2, 3, 4, 1, 2, 3])

    def test_every_line_there_may_be(self):
        for count in (1, 2, 3, 4):
            chances = [2, 7, 9, 1][:count]
            for holds in lines_of(count):
                self.assertEqual(last(line(chances, holds), ("state",)), [count] + chances + list(holds))

    def test_each_change_is_seen(self):
        for change, chances, holds in CHANGES + ((("begin", 8), [8], []), (("chance", 1, 9), [3, 9, 7], [3, 2])):
            told = last(FILLED, ("state",), change, ("state",))
            self.assertEqual(told, [len(chances)] + chances + holds, change)

    def test_what_does_not_change_it(self):
        for one in (("hour", [1, 1, 1]), ("empty",), ("begin", 0), ("machine", 0, 5), ("chance", 3, 5), ("room", 0, 9)):
            self.assertEqual(last(FILLED, one, ("state",)), [3, 3, 5, 7, 3, 2], one)

    def test_asking_changes_nothing(self):
        self.asked_only(FILLED, ("state",), 3)
        self.asked_only([("begin", 3)], ("state",), 1)


if __name__ == "__main__":
    unittest.main()

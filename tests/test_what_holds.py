"""What holds, a to f, over the whole program: asked of its own answers alone."""

import random
import unittest
from fractions import Fraction

from tests.helper import (
    GREATEST, Refusing, all_fillings, ask, cases, come_to, fractions_of, last, line, one_of_each_form, solved,
)

# One machine; two alike; room for one; a worst machine first, last, between; the greatest lines.
SEVERAL = (
    ([4], []), ([9], []), ([5, 5], [1]), ([7, 7], [8]), ([1, 9], [3]), ([9, 1], [2]), ([5, 5, 5], [1, 1]),
    ([2, 7, 8], [2, 1]), ([8, 2, 7], [1, 2]), ([7, 8, 2], [1, 3]), ([6, 6, 6, 6], [1, 1, 1]), ([1, 9, 8, 7], [1, 2, 1]),
    ([9, 8, 7, 1], [2, 1, 1]), ([9, 1, 8, 7], [1, 1, 2]), ([3, 4, 5], [8, 2]), ([3, 7, 4, 6], [2, 2, 2]),
)


def fractions_after(calls, *asks):
    """The fractions that each of these questions behind the calls is answered by, in one list."""
    found = []
    for told in ask(*calls, *asks)[len(calls):]:
        found += fractions_of(told)
    return found


class Shares(unittest.TestCase):
    """a. Each filling is there as often as it is come to; no other shares are so."""

    def moves(self, chances, holds):
        """From each filling to each how likely an hour leads, by the hours of the program itself."""
        made = line(chances, holds)
        found = {}
        for filling in all_fillings(holds):
            for ups, likely in cases(chances):
                after = tuple(last(made + come_to(filling), ("hour", list(ups)), ("now",))[1:])
                found[filling, after] = found.get((filling, after), 0) + likely
        return found

    def test_each_is_there_as_often_as_it_is_come_to(self):
        for chances, holds in SEVERAL:
            fillings = all_fillings(holds)
            shares = dict(zip(fillings, fractions_after(line(chances, holds), *[("long", list(f)) for f in fillings])))
            come = {filling: 0 for filling in fillings}
            for (before, after), likely in self.moves(chances, holds).items():
                come[after] += shares[before] * likely
            self.assertEqual(come, shares, (chances, holds))
            self.assertEqual(sum(shares.values()), 1)

    def test_no_other_shares_are_so(self):
        for chances, holds in SEVERAL:
            fillings = all_fillings(holds)
            moves = self.moves(chances, holds)
            rows = [[moves.get((before, after), 0) - (before == after) for before in fillings] + [0]
                    for after in fillings]
            rows[0] = [1] * (len(fillings) + 1)
            told = fractions_after(line(chances, holds), *[("long", list(filling)) for filling in fillings])
            self.assertEqual(solved(rows), told, (chances, holds))


class Rates(unittest.TestCase):
    """b. All machines work as often as each other. Up a machine works, or is starved, or blocked."""

    def fit(self, chances, holds):
        calls = line(chances, holds)
        out = fractions_after(calls, ("out",))
        for machine, chance in enumerate(chances):
            three = fractions_after(calls, ("rate", machine), ("starved", machine), ("blocked", machine))
            self.assertEqual(three[:1], out, (chances, holds, machine))
            self.assertEqual(sum(three), Fraction(chance, 10), (chances, holds, machine))
            self.assertGreaterEqual(min(three), 0)
        self.assertGreater(out[0], 0)

    def test_several_lines(self):
        for chances, holds in SEVERAL:
            self.fit(chances, holds)

    def test_one_of_each_form(self):
        for chances, holds in one_of_each_form(11):
            self.fit(chances, holds)

    def test_starved_and_blocked_fit_full(self):
        # The last machine is never blocked, the first never starved; a machine starves as its room is empty.
        for chances, holds in SEVERAL:
            calls = line(chances, holds)
            self.assertEqual(fractions_after(calls, ("starved", 0), ("blocked", len(holds))), [0, 0])
            for room in range(len(holds)):
                empty = fractions_after(calls, ("full", room))[1]
                starved = fractions_after(calls, ("starved", room + 1))[0]
                self.assertEqual(starved, empty * Fraction(chances[room + 1], 10), (chances, holds, room))


class TurnedRound(unittest.TestCase):
    """c. Turned round, the line brings as many."""

    def fit(self, chances, holds):
        calls = line(chances, holds)
        turned, as_it_is = fractions_after(calls, ("turned",))
        self.assertEqual(turned, as_it_is, (chances, holds))
        self.assertEqual(fractions_after(calls, ("out",)), [as_it_is])
        self.assertEqual(fractions_after(calls + [("turn",)], ("out",)), [as_it_is])
        self.assertEqual(fractions_after(line(chances[::-1], holds[::-1]), ("out",)), [as_it_is])

    def test_several_lines(self):
        for chances, holds in SEVERAL:
            self.fit(chances, holds)

    def test_one_of_each_form(self):
        for chances, holds in one_of_each_form(12):
            self.fit(chances, holds)


class MoreAndBetter(unittest.TestCase):
    """d. More room never brings fewer, and never more than the worst machine alone; a better machine never fewer."""

    def fit(self, chances, holds):
        calls = line(chances, holds)
        worst = Fraction(min(chances), 10)
        self.assertLessEqual(fractions_after(calls, ("out",))[0], worst)
        for room in range(len(holds)):
            told = last(calls, ("more", room))
            if told != [-28]:
                more, as_it_is = fractions_of(told)
                self.assertLessEqual(as_it_is, more, (chances, holds, room))
                self.assertLessEqual(more, worst, (chances, holds, room))
        for machine, chance in enumerate(chances):
            told = last(calls, ("better", machine))
            self.assertEqual(told == [-17], chance == 9)
            if chance < 9:
                better, as_it_is = fractions_of(told)
                self.assertLessEqual(as_it_is, better, (chances, holds, machine))

    def test_several_lines(self):
        for chances, holds in SEVERAL:
            self.fit(chances, holds)

    def test_one_of_each_form(self):
        for chances, holds in one_of_each_form(13):
            self.fit(chances, holds)

    def test_more_and_more_room(self):
        for chances in ([5, 5], [3, 4], [9, 8]):
            outs = [fractions_after(line(chances, [hold]), ("out",))[0] for hold in range(1, 9)]
            self.assertEqual(outs, sorted(outs))
            self.assertLess(outs[0], outs[-1])
            self.assertLess(outs[-1], Fraction(min(chances), 10))

    def test_better_and_better(self):
        for machine in range(3):
            outs = []
            for chance in range(1, 10):
                chances = [4, 6, 5]
                chances[machine] = chance
                outs.append(fractions_after(line(chances, [2, 2]), ("out",))[0])
            self.assertEqual(outs, sorted(outs))
            self.assertLess(outs[0], outs[-1])


class Pieces(unittest.TestCase):
    """e. Pieces aren't lost."""

    def hours_of(self, chances, holds, chosen):
        """Each room has what it had, what was put in and what was taken, hour by hour."""
        count = len(chances)
        asks = []
        for hour in range(90):
            asks += [("hour", [chosen.choice((0, 1)) for machine in range(count)]), ("now",)]
        told = ask(*line(chances, holds), *asks, ("empty",), ("now",))[count:]
        before = [0] * len(holds)
        for hour, now in zip(told[0:180:2], told[1:180:2]):
            works = hour[1:]
            self.assertEqual(hour[0], works[-1])
            after = [lies + works[room] - works[room + 1] for room, lies in enumerate(before)]
            self.assertEqual(now, [sum(after)] + after)
            self.assertEqual(sum(after), sum(before) + works[0] - hour[0])
            self.assertTrue(all(0 <= lies <= hold for lies, hold in zip(after, holds)))
            before = after
        self.assertEqual(told[-2:], [[sum(before)], [0] * count])

    def test_several_lines(self):
        chosen = random.Random(14)
        for chances, holds in SEVERAL:
            self.hours_of(chances, holds, chosen)

    def test_one_of_each_form(self):
        chosen = random.Random(15)
        for chances, holds in one_of_each_form(16):
            self.hours_of(chances, holds, chosen)


def refusals(chances, holds):
    """Calls that such a line refuses, each with the refusal."""
    count = len(chances)
    found = [(("begin", chance), -22) for chance in (0, 10, GREATEST)]
    found += [(("machine", *two), -22) for two in ((0, 5), (9, 5), (1, 0), (1, 10), (GREATEST, GREATEST))]
    if count == 4 or len(all_fillings(holds)) * 9 > 27:
        found.append((("machine", 8, 5), -28))
    if count == 1:
        found.append((("drop",), -6))
    for name in ("rate", "starved", "blocked", "better"):
        found += [((name, machine), -2) for machine in (count, count + 1, GREATEST)]
    for name in ("mean", "full", "more"):
        found += [((name, room), -2) for room in (count - 1, count, GREATEST)]
    found += [(("chance", count, chance), -2) for chance in (0, 5, 10)]
    found += [(("chance", machine, chance), -22) for machine in range(count) for chance in (0, 10, GREATEST)]
    found += [(("room", count - 1, hold), -2) for hold in (0, 1, 9)]
    found += [(("room", room, hold), -22) for room in range(count - 1) for hold in (0, 9, GREATEST)]
    found += [(("hour", ups), -22) for ups in ([1] * (count - 1), [1] * (count + 1), [0] * (count - 1) + [2], [2] * 6)]
    found += [(("long", filling), -22) for filling in ([0] * count, [GREATEST] * (count + 1))]
    found += [(("soon", hours), -22) for hours in (4, GREATEST)]
    for machine, chance in enumerate(chances):
        if chance == 9:
            found.append((("better", machine), -17))
    for room, hold in enumerate(holds):
        found.append((("long", [hold + (other == room) for other, hold in enumerate(holds)]), -22))
        others = holds[:room] + holds[room + 1:]
        if len(all_fillings(others + [8])) > 27:
            found.append((("room", room, 8), -28))
        if len(all_fillings(others + [hold + 1])) > 27:
            found.append((("more", room), -28))
    return found


class WhatIsRefused(Refusing):
    """f. What's refused changes nothing."""

    def test_several_lines(self):
        for chances, holds in SEVERAL:
            for filling in ([0] * len(holds), [1] * len(holds), holds):
                calls = line(chances, holds) + come_to(filling)
                for wrong, number in refusals(chances, holds):
                    told = ask(*calls, wrong, ("state",), ("now",))[-3:]
                    self.assertEqual(told[0], [number], (chances, holds, wrong))
                    self.assertEqual(told[1], [len(chances)] + chances + holds, wrong)
                    self.assertEqual(told[2], [sum(filling), *filling], wrong)

    def test_all_that_is_asked_is_as_without_it(self):
        for chances, holds in (([9], []), ([9, 4], [8]), ([3, 9, 5], [1, 2]), ([9, 4, 9, 2], [2, 2, 2])):
            calls = line(chances, holds) + come_to([1] * len(holds))
            for wrong, number in refusals(chances, holds):
                self.refused(calls, wrong, number, len(chances))


if __name__ == "__main__":
    unittest.main()

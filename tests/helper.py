"""Calls by name for the tests, and a second, independent telling of what a line does."""

import random
import unittest
from fractions import Fraction
from functools import lru_cache
from itertools import product

from linerooms.line import answers

NAMES = (
    "begin machine drop chance room hour empty out rate starved blocked mean full long turn turned better more "
    "soon now state"
).split()

GREATEST = 4294967295


def flat(calls):
    """Calls such as ("chance", 0, 5) or ("hour", [1, 0]) as one list of whole numbers."""
    numbers = []
    for name, *told in calls:
        numbers.append(NAMES.index(name))
        for one in told:
            if isinstance(one, list):
                numbers.append(len(one))
                numbers.extend(one)
            else:
                numbers.append(one)
    return numbers


def unflat(told):
    """One list for each call's answer."""
    found = []
    at = 0
    while at < len(told):
        found.append(told[at + 1:at + 1 + told[at]])
        at += 1 + told[at]
    assert at == len(told), told
    return found


def ask(*calls):
    """The answers to the calls, one list each."""
    found = unflat(answers(flat(calls)))
    assert len(found) == len(calls), (calls, found)
    return found


def line(chances, holds):
    """The calls that make such a line of machines."""
    return [("begin", chances[0])] + [("machine", r, p) for r, p in zip(holds, chances[1:])]


def last(calls, *more):
    """The answer to the last one of these calls."""
    return ask(*calls, *more)[-1]


def probe(count):
    """Calls whose answers would be others if so many machines, their rooms, pieces or chances had changed."""
    calls = [("state",), ("now",), ("soon", 3)]
    for machine in range(count):
        calls += [("rate", machine), ("starved", machine), ("blocked", machine)]
    for machine in reversed(range(count)):
        calls.append(("hour", [1 if other == machine else 0 for other in range(count)]))
    calls += [("hour", [1] * count), ("empty",), ("out",)]
    calls += [("chance", machine, 5) for machine in range(count)] + [("chance", count, 5)]
    calls += [("room", room, 1) for room in range(count - 1)] + [("room", count - 1, 1)]
    return calls + [("drop",)] * count


class Refusing(unittest.TestCase):
    """What several test classes ask of calls that leave the line as it was."""

    def refused(self, calls, wrong, number, count):
        """The wrong call is answered by the number alone, and then all is as without it."""
        after = probe(count)
        with_it = ask(*calls, wrong, *after)
        self.assertEqual(with_it[len(calls)], [number], wrong)
        self.assertEqual(with_it[:len(calls)] + with_it[len(calls) + 1:], ask(*calls, *after), wrong)

    def asked_only(self, calls, question, count):
        """The question isn't refused, is answered alike a second time, and then all is as without it."""
        after = probe(count)
        with_it = ask(*calls, question, question, *after)
        first, second = with_it[len(calls):len(calls) + 2]
        self.assertGreaterEqual(first[0], 0, question)
        self.assertEqual(first, second, question)
        self.assertEqual(with_it[:len(calls)] + with_it[len(calls) + 2:], ask(*calls, *after), question)


def lines_of(count):
    """All rooms that so many machines may have between them."""
    found = []
    for holds in product(range(1, 9), repeat=count - 1):
        fillings = 1
        for hold in holds:
            fillings *= hold + 1
        if fillings <= 27:
            found.append(holds)
    return found


def one_of_each_form(seed):
    """Chances and rooms, one line of each form there may be."""
    chosen = random.Random(seed)
    for count in (1, 2, 3, 4):
        for holds in lines_of(count):
            yield [chosen.randint(1, 9) for machine in range(count)], list(holds)


def come_to(filling):
    """Hours, one machine up in each, that bring empty rooms to the filling: the last room is filled first."""
    hours = []
    for room in reversed(range(len(filling))):
        for machine in list(range(room + 1)) * filling[room]:
            hours.append(("hour", [int(other == machine) for other in range(len(filling) + 1)]))
    return hours


# Three machines; then with two pieces in room 0 and one in room 1.
SOME = line([3, 5, 7], [3, 2])
FILLED = SOME + come_to((2, 1))

# Calls that change these three machines, each with the chances and rooms behind it.
CHANGES = (
    (("chance", 0, 8), [8, 5, 7], [3, 2]),
    (("chance", 2, 1), [3, 5, 1], [3, 2]),
    (("room", 0, 1), [3, 5, 7], [1, 2]),
    (("room", 1, 5), [3, 5, 7], [3, 5]),
    (("machine", 1, 6), [3, 5, 7, 6], [3, 2, 1]),
    (("drop",), [3, 5], [3]),
    (("turn",), [7, 5, 3], [2, 3]),
)


def all_fillings(holds):
    """All fillings of rooms that hold so many."""
    return list(product(*[range(hold + 1) for hold in holds]))


def does_work(machine, ups, holds, filling):
    """Whether the machine works, straight from the words."""
    if not ups[machine]:
        return False
    if machine > 0 and filling[machine - 1] == 0:
        return False
    if machine == len(ups) - 1 or filling[machine] != holds[machine]:
        return True
    return does_work(machine + 1, ups, holds, filling)


def step(ups, holds, filling):
    """Who works in an hour, and the filling behind it."""
    works = [int(does_work(machine, ups, holds, filling)) for machine in range(len(ups))]
    after = list(filling)
    for machine, one in enumerate(works):
        if one and machine > 0:
            after[machine - 1] -= 1
        if one and machine < len(ups) - 1:
            after[machine] += 1
    return works, tuple(after)


@lru_cache(None)
def known_cases(chances):
    """All that may be up in an hour, each with how likely it is."""
    found = []
    for ups in product((0, 1), repeat=len(chances)):
        likely = Fraction(1)
        for up, chance in zip(ups, chances):
            likely *= Fraction(chance if up else 10 - chance, 10)
        found.append((ups, likely))
    return tuple(found)


def cases(chances):
    """The same, of a list or tuple."""
    return known_cases(tuple(chances))


def solved(rows):
    """Gauss, over fractions: rows are [coefficients..., right side]. It fails where several solutions are."""
    rows = [[Fraction(number) for number in row] for row in rows]
    for place in range(len(rows)):
        pivot = next(k for k in range(place, len(rows)) if rows[k][place] != 0)
        rows[place], rows[pivot] = rows[pivot], rows[place]
        lead = rows[place]
        for k in range(place + 1, len(rows)):
            factor = rows[k][place] / lead[place]
            if factor:
                rows[k] = [a - factor * b if b else a for a, b in zip(rows[k], lead)]
    found = [Fraction(0)] * len(rows)
    for place in reversed(range(len(rows))):
        row = rows[place]
        known = sum(row[k] * found[k] for k in range(place + 1, len(rows)))
        found[place] = (row[-1] - known) / row[place]
    return found


@lru_cache(None)
def known_shares(chances, holds):
    """How often each filling is there in the long run: all together 1, and each as often as come to."""
    fillings = all_fillings(holds)
    place = {filling: k for k, filling in enumerate(fillings)}
    rows = [[Fraction(0)] * (len(fillings) + 1) for filling in fillings]
    for filling in fillings:
        rows[place[filling]][place[filling]] -= 1
        for ups, likely in cases(chances):
            rows[place[step(ups, holds, filling)[1]]][place[filling]] += likely
    rows[-1] = [Fraction(1)] * (len(fillings) + 1)
    return dict(zip(fillings, solved(rows)))


def long_shares(chances, holds):
    """The same, of lists or tuples."""
    return known_shares(tuple(chances), tuple(holds))


def long_run(chances, holds):
    """Of each machine how often it works, is up and starved, is up and blocked."""
    told = [[Fraction(0)] * 3 for chance in chances]
    for filling, share in long_shares(chances, holds).items():
        for ups, likely in cases(chances):
            works = step(ups, holds, filling)[0]
            for machine, up in enumerate(ups):
                if works[machine]:
                    told[machine][0] += share * likely
                elif up and machine > 0 and filling[machine - 1] == 0:
                    told[machine][1] += share * likely
                elif up:
                    told[machine][2] += share * likely
    return told


def comes_out(chances, holds):
    """How often a piece comes out: the last machine is up and there is a piece for it."""
    starved = sum(share for filling, share in long_shares(chances, holds).items() if filling and filling[-1] == 0)
    return Fraction(chances[-1], 10) * (1 - starved)


@lru_cache(None)
def known_soon(chances, holds, filling, hours):
    """How many pieces are looked for in so many hours, from each hour's cases one by one."""
    if hours == 0:
        return Fraction(0)
    looked_for = Fraction(0)
    for ups, likely in cases(chances):
        works, after = step(ups, holds, filling)
        looked_for += likely * (works[-1] + known_soon(chances, holds, after, hours - 1))
    return looked_for


def comes_soon(chances, holds, filling, hours):
    """The same, of lists or tuples."""
    return known_soon(tuple(chances), tuple(holds), tuple(filling), hours)


def told_as(*fractions):
    """How fractions are answered, behind the 0."""
    told = [0]
    for fraction in fractions:
        told += [fraction.numerator, fraction.denominator]
    return told


def fractions_of(told):
    """The fractions that are answered behind the 0."""
    assert told[0] == 0 and len(told) % 2 == 1, told
    return [Fraction(told[at], told[at + 1]) for at in range(1, len(told), 2)]


class SecondTelling:
    """A line of machines that answers each call straight from the words."""

    def __init__(self):
        self.chances, self.holds, self.filling = [], [], ()

    def answer(self, name, *told):
        if name == "begin":
            if not 1 <= told[0] <= 9:
                return [-22]
            self.chances, self.holds, self.filling = [told[0]], [], ()
            return [0]
        if not self.chances:
            return [-11]
        machines = ("chance", "rate", "starved", "blocked", "better")
        rooms = ("room", "mean", "full", "more")
        if name in machines and told[0] >= len(self.chances) or name in rooms and told[0] >= len(self.holds):
            return [-2]
        return getattr(self, name)(*told)

    def above_27(self, holds):
        return len(all_fillings(holds)) > 27

    def machine(self, hold, chance):
        if not 1 <= chance <= 9 or not 1 <= hold <= 8:
            return [-22]
        if len(self.chances) == 4 or self.above_27(self.holds + [hold]):
            return [-28]
        self.chances, self.holds, self.filling = self.chances + [chance], self.holds + [hold], self.filling + (0,)
        return [len(self.holds)]

    def drop(self):
        if not self.holds:
            return [-6]
        self.chances, self.holds, self.filling = self.chances[:-1], self.holds[:-1], self.filling[:-1]
        return [len(self.chances)]

    def chance(self, machine, chance):
        if not 1 <= chance <= 9:
            return [-22]
        was = self.chances[machine]
        self.chances = self.chances[:machine] + [chance] + self.chances[machine + 1:]
        return [was]

    def room(self, room, hold):
        if not 1 <= hold <= 8:
            return [-22]
        holds = self.holds[:room] + [hold] + self.holds[room + 1:]
        if self.above_27(holds):
            return [-28]
        was = self.holds[room]
        self.holds, self.filling = holds, (0,) * len(holds)
        return [was]

    def turn(self):
        self.chances, self.holds, self.filling = self.chances[::-1], self.holds[::-1], (0,) * len(self.holds)
        return [len(self.chances)]

    def state(self):
        return [len(self.chances), *self.chances, *self.holds]

    def hour(self, ups):
        if len(ups) != len(self.chances) or any(up not in (0, 1) for up in ups):
            return [-22]
        works, self.filling = step(ups, self.holds, self.filling)
        return [works[-1], *works]

    def empty(self):
        lay, self.filling = sum(self.filling), (0,) * len(self.holds)
        return [lay]

    def now(self):
        return [sum(self.filling), *self.filling]

    def soon(self, hours):
        return [-22] if hours > 3 else told_as(comes_soon(self.chances, self.holds, self.filling, hours))

    def out(self):
        return told_as(comes_out(self.chances, self.holds))

    def rate(self, machine):
        return told_as(long_run(self.chances, self.holds)[machine][0])

    def starved(self, machine):
        return told_as(long_run(self.chances, self.holds)[machine][1])

    def blocked(self, machine):
        return told_as(long_run(self.chances, self.holds)[machine][2])

    def mean(self, room):
        shares = long_shares(self.chances, self.holds).items()
        return told_as(sum(share * filling[room] for filling, share in shares))

    def full(self, room):
        shares = long_shares(self.chances, self.holds).items()
        return told_as(*[
            sum(share for filling, share in shares if filling[room] == lies) for lies in (self.holds[room], 0)
        ])

    def long(self, filling):
        share = long_shares(self.chances, self.holds).get(tuple(filling))
        return [-22] if share is None else told_as(share)

    def against(self, chances, holds):
        return told_as(comes_out(chances, holds), comes_out(self.chances, self.holds))

    def turned(self):
        return self.against(self.chances[::-1], self.holds[::-1])

    def better(self, machine):
        chances = list(self.chances)
        chances[machine] += 1
        return [-17] if chances[machine] > 9 else self.against(chances, self.holds)

    def more(self, room):
        holds = list(self.holds)
        holds[room] += 1
        return [-28] if self.above_27(holds) else self.against(self.chances, holds)

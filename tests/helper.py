"""Calls by name for the tests, and a second, independent telling of what a line does."""

import unittest
from fractions import Fraction
from itertools import product

from linerooms.line import answers

NAMES = (
    "begin machine drop chance room hour empty out rate starved blocked mean full long turn turned better more "
    "soon now state"
).split()

GREATEST = 4294967295


def flat(calls):
    """Calls such as ("chance", 0, 5) or ("hour", [1, 0]) as one list of whole numbers."""
    numbers = []
    for name, *told in calls:
        numbers.append(NAMES.index(name))
        for one in told:
            if isinstance(one, list):
                numbers.append(len(one))
                numbers.extend(one)
            else:
                numbers.append(one)
    return numbers


def unflat(told):
    """One list for each call's answer."""
    found = []
    at = 0
    while at < len(told):
        found.append(told[at + 1:at + 1 + told[at]])
        at += 1 + told[at]
    assert at == len(told), told
    return found


def ask(*calls):
    """The answers to the calls, one list each."""
    found = unflat(answers(flat(calls)))
    assert len(found) == len(calls), (calls, found)
    return found


def line(chances, holds):
    """The calls that make such a line of machines."""
    return [("begin", chances[0])] + [("machine", r, p) for r, p in zip(holds, chances[1:])]


def last(calls, *more):
    """The answer to the last one of these calls."""
    return ask(*calls, *more)[-1]


def probe(count):
    """Calls whose answers would be others if so many machines, their rooms, pieces or chances had changed."""
    calls = []
    for machine in range(count):
        calls += [("rate", machine), ("starved", machine), ("blocked", machine)]
    for machine in reversed(range(count)):
        calls.append(("hour", [1 if other == machine else 0 for other in range(count)]))
    calls += [("hour", [1] * count), ("empty",), ("out",)]
    calls += [("chance", machine, 5) for machine in range(count)] + [("chance", count, 5)]
    calls += [("room", room, 1) for room in range(count - 1)] + [("room", count - 1, 1)]
    return calls + [("drop",)] * count


class Refusing(unittest.TestCase):
    """What several test classes ask of refusals."""

    def refused(self, calls, wrong, number, count):
        """The wrong call is answered by the number alone, and then all is as without it."""
        after = probe(count)
        with_it = ask(*calls, wrong, *after)
        self.assertEqual(with_it[len(calls)], [number], wrong)
        self.assertEqual(with_it[:len(calls)] + with_it[len(calls) + 1:], ask(*calls, *after), wrong)


def lines_of(count):
    """All rooms that so many machines may have between them."""
    found = []
    for holds in product(range(1, 9), repeat=count - 1):
        fillings = 1
        for hold in holds:
            fillings *= hold + 1
        if fillings <= 27:
            found.append(holds)
    return found


def does_work(machine, ups, holds, filling):
    """Whether the machine works, straight from the words."""
    if not ups[machine]:
        return False
    if machine > 0 and filling[machine - 1] == 0:
        return False
    if machine == len(ups) - 1 or filling[machine] != holds[machine]:
        return True
    return does_work(machine + 1, ups, holds, filling)


def step(ups, holds, filling):
    """Who works in an hour, and the filling behind it."""
    works = [int(does_work(machine, ups, holds, filling)) for machine in range(len(ups))]
    after = list(filling)
    for machine, one in enumerate(works):
        if one and machine > 0:
            after[machine - 1] -= 1
        if one and machine < len(ups) - 1:
            after[machine] += 1
    return works, tuple(after)


def cases(chances):
    """All that may be up in an hour, each with how likely it is."""
    for ups in product((0, 1), repeat=len(chances)):
        likely = Fraction(1)
        for up, chance in zip(ups, chances):
            likely *= Fraction(chance if up else 10 - chance, 10)
        yield ups, likely


def solved(rows):
    """Gauss and Jordan, over fractions: rows are [coefficients..., right side]."""
    rows = [[Fraction(number) for number in row] for row in rows]
    for place in range(len(rows)):
        pivot = next(k for k in range(place, len(rows)) if rows[k][place] != 0)
        rows[place], rows[pivot] = rows[pivot], rows[place]
        rows[place] = [number / rows[place][place] for number in rows[place]]
        for k in range(len(rows)):
            factor = rows[k][place]
            if k != place and factor != 0:
                rows[k] = [a - factor * b for a, b in zip(rows[k], rows[place])]
    return [row[-1] for row in rows]


def long_shares(chances, holds):
    """How often each filling is there in the long run: all together 1, and each as often as come to."""
    fillings = list(product(*[range(hold + 1) for hold in holds]))
    place = {filling: k for k, filling in enumerate(fillings)}
    rows = [[Fraction(0)] * (len(fillings) + 1) for filling in fillings]
    for filling in fillings:
        rows[place[filling]][place[filling]] -= 1
        for ups, likely in cases(chances):
            rows[place[step(ups, holds, filling)[1]]][place[filling]] += likely
    rows[-1] = [Fraction(1)] * (len(fillings) + 1)
    return dict(zip(fillings, solved(rows)))


def long_run(chances, holds):
    """Of each machine how often it works, is up and starved, is up and blocked."""
    told = [[Fraction(0)] * 3 for chance in chances]
    for filling, share in long_shares(chances, holds).items():
        for ups, likely in cases(chances):
            works = step(ups, holds, filling)[0]
            for machine, up in enumerate(ups):
                if works[machine]:
                    told[machine][0] += share * likely
                elif up and machine > 0 and filling[machine - 1] == 0:
                    told[machine][1] += share * likely
                elif up:
                    told[machine][2] += share * likely
    return told


def told_as(fraction):
    """How a fraction is answered, behind the 0."""
    return [0, fraction.numerator, fraction.denominator]

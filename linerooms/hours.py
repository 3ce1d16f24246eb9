"""What happens in one hour, and what may happen in it by all chances."""

from linerooms.choices import every_choice
from linerooms.ratio import product


def has_piece(machine, filling):
    """Whether there is a piece for the machine at the hour's beginning."""
    return machine == 0 or filling[machine - 1] > 0


def who_works(ups, holds, filling):
    """Of each machine 1 if it works in the hour, 0 if it doesn't."""
    last = len(ups) - 1
    works = [0 for up in ups]
    # From the last one on, as a full room has place when the machine behind it works.
    for machine in range(last, -1, -1):
        has_place = machine == last or filling[machine] < holds[machine] or works[machine + 1] == 1
        if ups[machine] == 1 and has_piece(machine, filling) and has_place:
            works[machine] = 1
    return works


def filling_after(works, filling):
    """The filling at the hour's end, when those machines have worked."""
    return [filling[room] + works[room] - works[room + 1] for room in range(len(filling))]


def hour_cases(chances):
    """How many equal cases an hour has: 10 for each machine, multiplied."""
    return product([10 for chance in chances])


def weight_of(ups, chances):
    """How many of an hour's equal cases have just these machines up."""
    return product([chance if up == 1 else 10 - chance for up, chance in zip(ups, chances)])


def likely_hours(chances, holds, filling):
    """All hours that may follow the filling: ups, who works then, and the weight."""
    hours = []
    for ups in every_choice([1 for chance in chances]):
        hours.append((ups, who_works(ups, holds, filling), weight_of(ups, chances)))
    return hours

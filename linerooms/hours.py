"""What happens in one hour."""


def has_piece(machine, filling):
    """Whether there is a piece for the machine at the hour's beginning."""
    return machine == 0 or filling[machine - 1] > 0


def who_works(ups, holds, filling):
    """Of each machine 1 if it works in the hour, 0 if it doesn't."""
    last = len(ups) - 1
    works = [0 for up in ups]
    # From the last one on, as a full room has place when the machine behind it works.
    for machine in range(last, -1, -1):
        has_place = machine == last or filling[machine] < holds[machine] or works[machine + 1] == 1
        if ups[machine] == 1 and has_piece(machine, filling) and has_place:
            works[machine] = 1
    return works


def filling_after(works, filling):
    """The filling at the hour's end, when those machines have worked."""
    return [filling[room] + works[room] - works[room + 1] for room in range(len(filling))]

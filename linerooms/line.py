"""Calls on one line of machines, handed in and answered as lists of whole numbers."""

from linerooms.machines import MachineLine
from linerooms.refusals import NOT_BEGUN

# By a call's number: its name, how many whole numbers it has, and whether it has a row in their place.
FORMS = (
    ("begin", 1, False),
    ("machine", 2, False),
    ("drop", 0, False),
    ("chance", 2, False),
    ("room", 2, False),
    ("hour", 0, True),
    ("empty", 0, False),
    ("out", 0, False),
    ("rate", 1, False),
    ("starved", 1, False),
    ("blocked", 1, False),
    ("mean", 1, False),
    ("full", 1, False),
    ("long", 0, True),
    ("turn", 0, False),
    ("turned", 0, False),
    ("better", 1, False),
    ("more", 1, False),
    ("soon", 1, False),
    ("now", 0, False),
    ("state", 0, False),
)

BUILDING_CALLS = ("machine", "drop", "chance", "room", "turn", "state")
HOUR_CALLS = ("hour", "empty", "now", "soon")
LONG_RUN_CALLS = ("out", "rate", "starved", "blocked", "mean", "full", "long")


def split_calls(calls):
    """For each call its name and the numbers handed to it, without a row's length."""
    found = []
    at = 0
    while at < len(calls):
        form = FORMS[calls[at]]
        start = at + 1
        count = form[1]
        if form[2]:
            count = calls[start]
            start = start + 1
        found.append((form[0], calls[start:start + count]))
        at = start + count
    return found


def answer_of_building(machines, name, numbers):
    """The answer to a call that changes the machines and rooms, or asks which they are."""
    if name == "machine":
        return machines.machine(numbers[0], numbers[1])
    if name == "drop":
        return machines.drop()
    if name == "chance":
        return machines.chance(numbers[0], numbers[1])
    if name == "room":
        return machines.room(numbers[0], numbers[1])
    if name == "turn":
        return machines.turn()
    return machines.state()


def answer_of_hours(machines, name, numbers):
    """The answer to a call on the pieces that lie in the rooms now, and on the next hours."""
    if name == "hour":
        return machines.hour(numbers)
    if name == "empty":
        return machines.empty()
    if name == "now":
        return machines.now()
    return machines.soon(numbers[0])


def answer_of_long_run(machines, name, numbers):
    """The answer to a call that asks what is so in the long run."""
    if name == "out":
        return machines.out()
    if name == "rate":
        return machines.rate(numbers[0])
    if name == "starved":
        return machines.starved(numbers[0])
    if name == "blocked":
        return machines.blocked(numbers[0])
    if name == "mean":
        return machines.mean(numbers[0])
    if name == "full":
        return machines.full(numbers[0])
    return machines.long(numbers)


def answer_of_change(machines, name, numbers):
    """The answer to a call that asks what a change would bring."""
    if name == "turned":
        return machines.turned()
    if name == "better":
        return machines.better(numbers[0])
    return machines.more(numbers[0])


def answer(machines, name, numbers):
    """The answer to one call."""
    if name == "begin":
        return machines.begin(numbers[0])
    if not machines.is_begun():
        return [NOT_BEGUN]
    if name in BUILDING_CALLS:
        return answer_of_building(machines, name, numbers)
    if name in HOUR_CALLS:
        return answer_of_hours(machines, name, numbers)
    if name in LONG_RUN_CALLS:
        return answer_of_long_run(machines, name, numbers)
    return answer_of_change(machines, name, numbers)


def answers(calls):
    """For each call how many numbers are answered, then these."""
    machines = MachineLine()
    told = []
    for name, numbers in split_calls(calls):
        one = answer(machines, name, numbers)
        told.append(len(one))
        told.extend(one)
    return told

"""The line of machines that calls are made on."""

from linerooms.hours import filling_after
from linerooms.hours import has_piece
from linerooms.hours import who_works
from linerooms.longrun import LongRun
from linerooms.ratio import product
from linerooms.refusals import NONE_SUCH
from linerooms.refusals import ONLY_ONE
from linerooms.refusals import OUT_OF_RANGE
from linerooms.refusals import SO_ALREADY
from linerooms.refusals import TOO_MANY
from linerooms.soon import pieces_soon

MOST_CHANCE = 9
MOST_HELD = 8
MOST_MACHINES = 4
MOST_FILLINGS = 27
MOST_HOURS = 3


def is_chance(number):
    """Whether a machine may have that chance."""
    return 1 <= number <= MOST_CHANCE


def is_room(number):
    """Whether a room may hold so many."""
    return 1 <= number <= MOST_HELD


def too_many_fillings(holds):
    """Whether rooms that hold so many have more fillings than a line may have."""
    return product([hold + 1 for hold in holds]) > MOST_FILLINGS


def changed_at(numbers, place, number):
    """The numbers with another one at the place, as a new list."""
    changed = list(numbers)
    changed[place] = number
    return changed


class MachineLine:
    """Machines in a row and the rooms between them. Each call answers a list of whole numbers."""

    def __init__(self):
        self.chances = []
        self.holds = []
        self.filling = []
        # The long run is much work, so each is made once and kept by the chances and rooms it is of.
        self.known_runs = {}

    def is_begun(self):
        """Whether a begin has answered 0."""
        return len(self.chances) > 0

    def begin(self, chance):
        """One machine, whatever there was."""
        if not is_chance(chance):
            return [OUT_OF_RANGE]
        self.chances = [chance]
        self.holds = []
        self.filling = []
        return [0]

    def machine(self, hold, chance):
        """One more machine, the last, with an empty room ahead of it."""
        if not is_chance(chance) or not is_room(hold):
            return [OUT_OF_RANGE]
        if len(self.chances) == MOST_MACHINES or too_many_fillings(self.holds + [hold]):
            return [TOO_MANY]
        self.chances.append(chance)
        self.holds.append(hold)
        self.filling.append(0)
        return [len(self.chances) - 1]

    def drop(self):
        """The last machine is gone, and the room ahead of it."""
        if len(self.chances) == 1:
            return [ONLY_ONE]
        self.chances.pop()
        self.holds.pop()
        self.filling.pop()
        return [len(self.chances)]

    def chance(self, machine, chance):
        """Another chance for a machine."""
        if machine >= len(self.chances):
            return [NONE_SUCH]
        if not is_chance(chance):
            return [OUT_OF_RANGE]
        earlier = self.chances[machine]
        self.chances[machine] = chance
        return [earlier]

    def room(self, room, hold):
        """A room holds another number of pieces; all rooms are emptied."""
        if room >= len(self.holds):
            return [NONE_SUCH]
        if not is_room(hold):
            return [OUT_OF_RANGE]
        changed = changed_at(self.holds, room, hold)
        if too_many_fillings(changed):
            return [TOO_MANY]
        earlier = self.holds[room]
        self.holds = changed
        self.empty()
        return [earlier]

    def turn(self):
        """Machines and rooms stand in the opposite order; all rooms are emptied."""
        self.chances = list(reversed(self.chances))
        self.holds = list(reversed(self.holds))
        self.empty()
        return [len(self.chances)]

    def state(self):
        """How many machines, their chances, and what the rooms hold."""
        return [len(self.chances)] + self.chances + self.holds

    def hour(self, ups):
        """An hour goes by with these machines up."""
        if len(ups) != len(self.chances) or max(ups) > 1:
            return [OUT_OF_RANGE]
        works = who_works(ups, self.holds, self.filling)
        self.filling = filling_after(works, self.filling)
        return [works[-1]] + works

    def empty(self):
        """All rooms are emptied."""
        lay = sum(self.filling)
        self.filling = [0 for hold in self.holds]
        return [lay]

    def now(self):
        """How many pieces lie in all rooms, then in each."""
        return [sum(self.filling)] + self.filling

    def soon(self, count):
        """How many pieces come out in so many hours from now on, looked for."""
        if count > MOST_HOURS:
            return [OUT_OF_RANGE]
        return [0] + pieces_soon(self.chances, self.holds, self.filling, count)

    def run_of(self, chances, holds):
        """The long run of machines with such chances and rooms that hold so many."""
        key = (tuple(chances), tuple(holds))
        if key not in self.known_runs:
            self.known_runs[key] = LongRun(key[0], key[1])
        return self.known_runs[key]

    def long_run(self):
        """The long run of the line as it is."""
        return self.run_of(self.chances, self.holds)

    def out(self):
        """How often a piece comes out."""
        return [0] + self.long_run().how_often_out()

    def rate(self, machine):
        """How often a machine works."""
        if machine >= len(self.chances):
            return [NONE_SUCH]
        return [0] + self.long_run().how_often(lambda filling, ups, works: works[machine] == 1)

    def starved(self, machine):
        """How often a machine is up and there is no piece for it."""
        if machine >= len(self.chances):
            return [NONE_SUCH]

        def is_starved(filling, ups, works):
            return ups[machine] == 1 and not has_piece(machine, filling)

        return [0] + self.long_run().how_often(is_starved)

    def blocked(self, machine):
        """How often a machine is up, there is a piece for it, and it doesn't work."""
        if machine >= len(self.chances):
            return [NONE_SUCH]

        def is_blocked(filling, ups, works):
            return ups[machine] == 1 and has_piece(machine, filling) and works[machine] == 0

        return [0] + self.long_run().how_often(is_blocked)

    def mean(self, room):
        """How many pieces lie in a room at an hour's beginning, looked for."""
        if room >= len(self.holds):
            return [NONE_SUCH]
        return [0] + self.long_run().looked_for(lambda filling, ups, works: filling[room])

    def full(self, room):
        """How often a room is full at an hour's beginning, then how often it is empty."""
        if room >= len(self.holds):
            return [NONE_SUCH]
        hold = self.holds[room]
        run = self.long_run()
        is_full = run.how_often(lambda filling, ups, works: filling[room] == hold)
        is_empty = run.how_often(lambda filling, ups, works: filling[room] == 0)
        return [0] + is_full + is_empty

    def long(self, wanted):
        """How often just that filling is there."""
        if len(wanted) != len(self.holds) or any([lies > hold for lies, hold in zip(wanted, self.holds)]):
            return [OUT_OF_RANGE]
        return [0] + self.long_run().how_often(lambda filling, ups, works: filling == wanted)

    def both_outs(self, chances, holds):
        """How often a piece would come out with such chances and rooms, then how often as it is."""
        return [0] + self.run_of(chances, holds).how_often_out() + self.long_run().how_often_out()

    def turned(self):
        """How often a piece would come out of the line turned round, then as it is."""
        return self.both_outs(list(reversed(self.chances)), list(reversed(self.holds)))

    def better(self, machine):
        """How often a piece would come out, had a machine a chance one higher, then as it is."""
        if machine >= len(self.chances):
            return [NONE_SUCH]
        chance = self.chances[machine]
        if chance == MOST_CHANCE:
            return [SO_ALREADY]
        return self.both_outs(changed_at(self.chances, machine, chance + 1), self.holds)

    def more(self, room):
        """How often a piece would come out, did a room hold one more, then as it is."""
        if room >= len(self.holds):
            return [NONE_SUCH]
        # Only the fillings bound it: it is also told what a ninth piece in a room of 8 would bring.
        changed = changed_at(self.holds, room, self.holds[room] + 1)
        if too_many_fillings(changed):
            return [TOO_MANY]
        return self.both_outs(self.chances, changed)

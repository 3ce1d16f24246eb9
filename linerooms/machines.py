"""The line of machines that calls are made on."""

from linerooms.hours import filling_after
from linerooms.hours import has_piece
from linerooms.hours import who_works
from linerooms.longrun import LongRun
from linerooms.ratio import product
from linerooms.refusals import NONE_SUCH
from linerooms.refusals import ONLY_ONE
from linerooms.refusals import OUT_OF_RANGE
from linerooms.refusals import TOO_MANY

MOST_CHANCE = 9
MOST_HELD = 8
MOST_MACHINES = 4
MOST_FILLINGS = 27


def is_chance(number):
    """Whether a machine may have that chance."""
    return 1 <= number <= MOST_CHANCE


def is_room(number):
    """Whether a room may hold so many."""
    return 1 <= number <= MOST_HELD


def too_many_fillings(holds):
    """Whether rooms that hold so many have more fillings than a line may have."""
    return product([hold + 1 for hold in holds]) > MOST_FILLINGS


class MachineLine:
    """Machines in a row and the rooms between them. Each call answers a list of whole numbers."""

    def __init__(self):
        self.chances = []
        self.holds = []
        self.filling = []
        # The long run is much work, so each is made once and kept by the chances and rooms it is of.
        self.known_runs = {}

    def is_begun(self):
        """Whether a begin has answered 0."""
        return len(self.chances) > 0

    def begin(self, chance):
        """One machine, whatever there was."""
        if not is_chance(chance):
            return [OUT_OF_RANGE]
        self.chances = [chance]
        self.holds = []
        self.filling = []
        return [0]

    def machine(self, hold, chance):
        """One more machine, the last, with an empty room ahead of it."""
        if not is_chance(chance) or not is_room(hold):
            return [OUT_OF_RANGE]
        if len(self.chances) == MOST_MACHINES or too_many_fillings(self.holds + [hold]):
            return [TOO_MANY]
        self.chances.append(chance)
        self.holds.append(hold)
        self.filling.append(0)
        return [len(self.chances) - 1]

    def drop(self):
        """The last machine is gone, and the room ahead of it."""
        if len(self.chances) == 1:
            return [ONLY_ONE]
        self.chances.pop()
        self.holds.pop()
        self.filling.pop()
        return [len(self.chances)]

    def chance(self, machine, chance):
        """Another chance for a machine."""
        if machine >= len(self.chances):
            return [NONE_SUCH]
        if not is_chance(chance):
            return [OUT_OF_RANGE]
        earlier = self.chances[machine]
        self.chances[machine] = chance
        return [earlier]

    def room(self, room, hold):
        """A room holds another number of pieces; all rooms are emptied."""
        if room >= len(self.holds):
            return [NONE_SUCH]
        if not is_room(hold):
            return [OUT_OF_RANGE]
        changed = list(self.holds)
        changed[room] = hold
        if too_many_fillings(changed):
            return [TOO_MANY]
        earlier = self.holds[room]
        self.holds = changed
        self.empty()
        return [earlier]

    def hour(self, ups):
        """An hour goes by with these machines up."""
        if len(ups) != len(self.chances) or max(ups) > 1:
            return [OUT_OF_RANGE]
        works = who_works(ups, self.holds, self.filling)
        self.filling = filling_after(works, self.filling)
        return [works[-1]] + works

    def empty(self):
        """All rooms are emptied."""
        lay = sum(self.filling)
        self.filling = [0 for hold in self.holds]
        return [lay]

    def long_run(self):
        """The long run of the line as it is."""
        key = (tuple(self.chances), tuple(self.holds))
        if key not in self.known_runs:
            self.known_runs[key] = LongRun(key[0], key[1])
        return self.known_runs[key]

    def out(self):
        """How often a piece comes out."""
        return self.rate(len(self.chances) - 1)

    def rate(self, machine):
        """How often a machine works."""
        if machine >= len(self.chances):
            return [NONE_SUCH]
        return [0] + self.long_run().how_often(lambda filling, ups, works: works[machine] == 1)

    def starved(self, machine):
        """How often a machine is up and there is no piece for it."""
        if machine >= len(self.chances):
            return [NONE_SUCH]

        def is_starved(filling, ups, works):
            return ups[machine] == 1 and not has_piece(machine, filling)

        return [0] + self.long_run().how_often(is_starved)

    def blocked(self, machine):
        """How often a machine is up, there is a piece for it, and it doesn't work."""
        if machine >= len(self.chances):
            return [NONE_SUCH]

        def is_blocked(filling, ups, works):
            return ups[machine] == 1 and has_piece(machine, filling) and works[machine] == 0

        return [0] + self.long_run().how_often(is_blocked)

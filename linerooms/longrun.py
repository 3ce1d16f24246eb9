"""How often fillings are there, and things happen, in the long run."""

from linerooms.choices import every_choice
from linerooms.equations import solution
from linerooms.hours import filling_after
from linerooms.hours import hour_cases
from linerooms.hours import likely_hours
from linerooms.ratio import lowest


def move_weights(fillings, hours):
    """For each filling a list: with what weight each of the fillings comes next."""
    places = {}
    for place, filling in enumerate(fillings):
        places[tuple(filling)] = place
    moves = []
    for filling, its_hours in zip(fillings, hours):
        move = [0 for other in fillings]
        for ups, works, weight in its_hours:
            after = places[tuple(filling_after(works, filling))]
            move[after] = move[after] + weight
        moves.append(move)
    return moves


def balance_rows(moves, cases):
    """An equation for each filling but the first: it is come to as often as it is there.

    The first filling's share stands on the right side, as 1. From every filling the empty one is
    come to in the end, so the determinants are above 0, as linerooms.equations asks.
    """
    rows = []
    for after in range(1, len(moves)):
        row = [-moves[before][after] for before in range(1, len(moves))]
        row[after - 1] = row[after - 1] + cases
        row.append(moves[0][after])
        rows.append(row)
    return rows


class LongRun:
    """The long run of machines with such chances and rooms that hold so many."""

    def __init__(self, chances, holds):
        self.cases = hour_cases(chances)
        self.fillings = every_choice(holds)
        self.hours = [likely_hours(chances, holds, filling) for filling in self.fillings]
        # Shares are whole numbers here: a filling's own one to all of them together.
        self.shares = solution(balance_rows(move_weights(self.fillings, self.hours), self.cases))

    def looked_for(self, worth):
        """What worth(filling, ups, works), a whole number, is in an hour, looked for, as a fraction."""
        above = 0
        for filling, share, its_hours in zip(self.fillings, self.shares, self.hours):
            above = above + share * sum([weight * worth(filling, ups, works) for ups, works, weight in its_hours])
        return lowest(above, sum(self.shares) * self.cases)

    def how_often(self, happens):
        """The fraction of hours of which happens(filling, ups, works) is true."""
        return self.looked_for(lambda filling, ups, works: 1 if happens(filling, ups, works) else 0)

    def how_often_out(self):
        """The fraction of hours in which a piece comes out."""
        return self.how_often(lambda filling, ups, works: works[-1] == 1)

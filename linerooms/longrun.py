"""How often fillings are there, and things happen, in the long run."""

from linerooms.choices import every_choice
from linerooms.equations import solution
from linerooms.hours import filling_after
from linerooms.hours import who_works
from linerooms.ratio import lowest
from linerooms.ratio import product


def weight_of(ups, chances):
    """How many of an hour's equal cases, 10 for each machine, multiplied, have just these machines up."""
    return product([chance if up == 1 else 10 - chance for up, chance in zip(ups, chances)])


def likely_hours(chances, holds, filling):
    """All hours that may follow the filling: ups, who works then, and the weight."""
    hours = []
    for ups in every_choice([1 for chance in chances]):
        hours.append((ups, who_works(ups, holds, filling), weight_of(ups, chances)))
    return hours


def move_weights(fillings, hours):
    """For each filling a list: with what weight each of the fillings comes next."""
    places = {}
    for place, filling in enumerate(fillings):
        places[tuple(filling)] = place
    moves = []
    for filling, its_hours in zip(fillings, hours):
        move = [0 for other in fillings]
        for ups, works, weight in its_hours:
            after = places[tuple(filling_after(works, filling))]
            move[after] = move[after] + weight
        moves.append(move)
    return moves


def balance_rows(moves, cases):
    """An equation for each filling but the first: it is come to as often as it is there.

    The first filling's share stands on the right side, as 1. From every filling the empty one is
    come to in the end, so the determinants are above 0, as linerooms.equations asks.
    """
    rows = []
    for after in range(1, len(moves)):
        row = [-moves[before][after] for before in range(1, len(moves))]
        row[after - 1] = row[after - 1] + cases
        row.append(moves[0][after])
        rows.append(row)
    return rows


class LongRun:
    """The long run of machines with such chances and rooms that hold so many."""

    def __init__(self, chances, holds):
        self.cases = product([10 for chance in chances])
        self.fillings = every_choice(holds)
        self.hours = [likely_hours(chances, holds, filling) for filling in self.fillings]
        # Shares are whole numbers here: a filling's own one to all of them together.
        self.shares = solution(balance_rows(move_weights(self.fillings, self.hours), self.cases))

    def how_often(self, happens):
        """The fraction of hours of which happens(filling, ups, works) is true."""
        above = 0
        for filling, share, its_hours in zip(self.fillings, self.shares, self.hours):
            weights = [weight for ups, works, weight in its_hours if happens(filling, ups, works)]
            above = above + share * sum(weights)
        return lowest(above, sum(self.shares) * self.cases)

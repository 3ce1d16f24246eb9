"""What is to be looked for in the next hours."""

from linerooms.hours import filling_after
from linerooms.hours import hour_cases
from linerooms.hours import likely_hours
from linerooms.ratio import lowest


def moves_from(weights, chances, holds):
    """All hours that may follow fillings of such weights: how many pieces come out, the filling after, the weight."""
    moves = []
    for filling, weight in weights.items():
        for ups, works, likely in likely_hours(chances, holds, filling):
            moves.append((works[-1], tuple(filling_after(works, filling)), weight * likely))
    return moves


def weights_after(moves):
    """The weight of each filling that these moves come to."""
    weights = {}
    for piece, filling, weight in moves:
        weights[filling] = weights.get(filling, 0) + weight
    return weights


def pieces_soon(chances, holds, filling, count):
    """How many pieces come out in so many hours from the filling on, looked for, as a fraction."""
    cases = hour_cases(chances)
    weights = {tuple(filling): 1}
    above = 0
    below = 1
    for hour in range(count):
        moves = moves_from(weights, chances, holds)
        above = above * cases + sum([piece * weight for piece, after, weight in moves])
        below = below * cases
        weights = weights_after(moves)
    return lowest(above, below)

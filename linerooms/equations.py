"""Linear equations in whole numbers, solved without a fraction."""


def cleared(row, by, place, divisor):
    """The row, crossed with another one so that its number at the place is 0."""
    lead = by[place]
    mine = row[place]
    # Each such difference is a minor of the equations times the divisor: nothing is left over.
    return [(lead * own - mine * other) // divisor for own, other in zip(row, by)]


def triangle(rows):
    """The same equations, each without the unknowns of those above it."""
    done = list(rows)
    divisor = 1
    for place in range(len(done)):
        for below in range(place + 1, len(done)):
            done[below] = cleared(done[below], done[place], place, divisor)
        divisor = done[place][place]
    return done


def solution(rows):
    """What the unknowns are, as one common number below, then for each unknown its number above.

    A row has a number for each unknown, then the right side. No swap of rows is ever made: each
    square of the first rows and unknowns must have a determinant above 0, as those of
    linerooms.longrun have.
    """
    size = len(rows)
    if size == 0:
        return [1]
    done = triangle(rows)
    below = done[size - 1][size - 1]
    above = [0 for row in rows]
    for place in range(size - 1, -1, -1):
        row = done[place]
        known = sum([row[later] * above[later] for later in range(place + 1, size)])
        # The common number below is the determinant, so by Cramer's rule this comes out whole.
        above[place] = (below * row[size] - known) // row[place]
    return [below] + above

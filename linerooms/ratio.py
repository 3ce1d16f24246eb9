"""Products and fractions of whole numbers."""


def product(numbers):
    """All numbers multiplied; 1 if there are none."""
    result = 1
    for number in numbers:
        result = result * number
    return result


def common_measure(one, other):
    """The greatest whole number that measures both."""
    while other > 0:
        rest = one % other
        one = other
        other = rest
    return one


def lowest(above, below):
    """The fraction above / below as two numbers with nothing in common; below is 1 or more."""
    measure = common_measure(above, below)
    return [above // measure, below // measure]

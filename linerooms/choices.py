"""All lists of whole numbers within given limits."""


def every_choice(limits):
    """All lists with one number for each limit, from 0 to it; the one of zeros alone is the first."""
    choices = [[]]
    for limit in limits:
        longer = []
        for choice in choices:
            for number in range(limit + 1):
                longer.append(choice + [number])
        choices = longer
    return choices

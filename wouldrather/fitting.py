"""Numbers for prizes, lots' sums by them, and which numbers fit."""

from wouldrather.telling import holds

LEAST_NUMBER = 1
GREATEST_NUMBER = 8


def is_numbers(told, row):
    if len(row) != told.prizes:
        return False
    return all([LEAST_NUMBER <= number <= GREATEST_NUMBER for number in row])


def all_numbers(prizes):
    """All numbers for so many prizes, the lesser ahead at the first prize that differs."""
    found = [[]]
    for length in range(prizes):
        longer = []
        for row in found:
            for number in range(LEAST_NUMBER, GREATEST_NUMBER + 1):
                longer.append(row + [number])
        found = longer
    return found


def prize_shares(told, shares, lot):
    """Of each prize the share of all worlds in which the lot has it."""
    found = [0] * told.prizes
    for world, prize in enumerate(told.lots[lot]):
        found[prize] = found[prize] + shares[world]
    return found


def prize_gaps(told, shares, first, second):
    """Of each prize how much more share the first lot gives it than the second.

    Weighed by numbers, these come to the first lot's sum less the second's.
    """
    ahead = prize_shares(told, shares, first)
    other = prize_shares(told, shares, second)
    return [ahead[prize] - other[prize] for prize in range(told.prizes)]


def weighed(weights, numbers):
    return sum([weight * number for weight, number in zip(weights, numbers)])


def rather_gaps(told, shares):
    """Each that is told rather as a pair: its kind, and the gaps between its lots."""
    return [(kind, prize_gaps(told, shares, first, second)) for kind, first, second in told.rather]


def numbers_agree(kind, gaps, numbers):
    return holds(kind, weighed(gaps, numbers), 0)


def agreeing(kind, gaps, rows):
    """Those of several numbers that agree, in their order."""
    return [numbers for numbers in rows if numbers_agree(kind, gaps, numbers)]


def disagreed_with(tellings, numbers):
    """The places of the tellings, pairs of a kind and gaps, that the numbers don't agree with."""
    return [place for place, one in enumerate(tellings) if not numbers_agree(one[0], one[1], numbers)]


def all_that_fit(told, shares):
    """The numbers that agree with all that is told rather, in order."""
    found = all_numbers(told.prizes)
    for kind, gaps in rather_gaps(told, shares):
        found = agreeing(kind, gaps, found)
    return found

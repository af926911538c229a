"""Numbers for prizes, lots' sums by them, and which numbers fit."""

from wouldrather.telling import holds

LEAST_NUMBER = 1
GREATEST_NUMBER = 8


def is_numbers(told, row):
    if len(row) != told.prizes:
        return False
    return all([LEAST_NUMBER <= number <= GREATEST_NUMBER for number in row])


def all_numbers(prizes):
    """All numbers for so many prizes, the lesser ahead at the first prize that differs."""
    found = [[]]
    for length in range(prizes):
        longer = []
        for row in found:
            for number in range(LEAST_NUMBER, GREATEST_NUMBER + 1):
                longer.append(row + [number])
        found = longer
    return found


def prize_shares(told, shares, lot):
    """Of each prize the share of all worlds in which the lot has it."""
    found = [0] * told.prizes
    for world, prize in enumerate(told.lots[lot]):
        found[prize] = found[prize] + shares[world]
    return found


def prize_gaps(told, shares, first, second):
    """Of each prize how much more share the first lot gives it than the second.

    Weighed by numbers, these come to the first lot's sum less the second's.
    """
    ahead = prize_shares(told, shares, first)
    other = prize_shares(told, shares, second)
    return [ahead[prize] - other[prize] for prize in range(told.prizes)]


def weighed(weights, numbers):
    return sum([weight * number for weight, number in zip(weights, numbers)])


def numbers_agree(kind, gaps, numbers):
    return holds(kind, weighed(gaps, numbers), 0)


def numbers_fit(told, shares, numbers):
    for kind, first, second in told.rather:
        if not numbers_agree(kind, prize_gaps(told, shares, first, second), numbers):
            return False
    return True


def all_that_fit(told, shares):
    """The numbers that agree with all that is told rather, in order."""
    found = all_numbers(told.prizes)
    for kind, first, second in told.rather:
        gaps = prize_gaps(told, shares, first, second)
        found = [numbers for numbers in found if numbers_agree(kind, gaps, numbers)]
    return found

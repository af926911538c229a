"""Lots and prizes held against each other, by all numbers that fit."""

from wouldrather.fitting import agreeing, prize_gaps, prize_shares, weighed


def least_numbers(fitting):
    # min takes the first of several that are least, and what fits is in order
    return min(fitting, key=sum)


def least_and_greatest_sum(told, shares, fitting, lot):
    weights = prize_shares(told, shares, lot)
    sums = [weighed(weights, numbers) for numbers in fitting]
    return (min(sums), max(sums))


def surely_above(gaps):
    """2 each gap is above 0, 1 none is below it, else 0."""
    smallest = min(gaps)
    if smallest > 0:
        return 2
    return 1 if smallest == 0 else 0


def surely_more(told, shares, fitting, first, second):
    gaps = prize_gaps(told, shares, first, second)
    return surely_above([weighed(gaps, numbers) for numbers in fitting])


def prize_surely_more(fitting, first, second):
    return surely_above([numbers[first] - numbers[second] for numbers in fitting])


def some_agree(told, shares, fitting, kind, first, second):
    return len(agreeing(kind, prize_gaps(told, shares, first, second), fitting)) > 0


def no_worse_in_each_world(told, fitting, first, second):
    for ahead, other in zip(told.lots[first], told.lots[second]):
        if prize_surely_more(fitting, ahead, other) == 0:
            return False
    return True


def times_at_the_top(told, shares, fitting):
    """Of each lot by how many of the numbers it is worth as much as any."""
    lots = list(range(len(told.lots)))
    weights = [prize_shares(told, shares, lot) for lot in lots]
    found = [0 for lot in lots]
    for numbers in fitting:
        sums = [weighed(row, numbers) for row in weights]
        most = max(sums, default=0)
        for lot in lots:
            if sums[lot] == most:
                found[lot] = found[lot] + 1
    return found


def best_lots(told, shares, fitting, least_often):
    """The lots that are at the top by at least so many of the numbers, rising."""
    often = times_at_the_top(told, shares, fitting)
    return [lot for lot, times in enumerate(often) if times >= least_often]

"""What it is worth to learn something first."""

from wouldrather.fraction import fraction
from wouldrather.members import is_member, set_of_all


def sum_over(told, shares, numbers, lot, chosen):
    """A lot's sum over the worlds of a set alone."""
    total = 0
    for world, prize in enumerate(told.lots[lot]):
        if is_member(chosen, world):
            total = total + shares[world] * numbers[prize]
    return total


def best_over(told, shares, numbers, chosen):
    return max([sum_over(told, shares, numbers, lot, chosen) for lot in range(len(told.lots))])


def worth_of_learning(told, shares, numbers, cases):
    """How much more it is worth to learn first which of the cases it is.

    The cases are sets of worlds; each world is in just one of them.
    """
    learnt = sum([best_over(told, shares, numbers, case) for case in cases])
    at_once = best_over(told, shares, numbers, set_of_all(told.worlds))
    return fraction(learnt - at_once, sum(shares))


def worth_of_learning_whether(told, shares, numbers, chosen):
    others = set_of_all(told.worlds) - chosen
    return worth_of_learning(told, shares, numbers, [chosen, others])


def worth_of_learning_all(told, shares, numbers):
    worlds = [1 << world for world in range(told.worlds)]
    return worth_of_learning(told, shares, numbers, worlds)

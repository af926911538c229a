"""The calls that ask about chances and numbers, and change nothing."""

from wouldrather.codes import CHANCES, FITS, LEAST, MORE, NO_CHANCES, NO_NUMBERS, NONE_SUCH, NOT_RIGHT, WAYS, WORTH
from wouldrather.fitting import all_that_fit, is_numbers, numbers_fit, prize_gaps, prize_shares, weighed
from wouldrather.fraction import fraction
from wouldrather.shares import chances_gone_by
from wouldrather.telling import has_lot, has_lots


def refusal_of_given(told, call, given):
    """The refusal that is due for what is given, or None; it comes ahead of those for chances and numbers."""
    if call == WORTH and not has_lot(told, given[0]):
        return NONE_SUCH
    if call == MORE and not has_lots(told, given[0], given[1]):
        return NONE_SUCH
    if call == FITS and not is_numbers(told, given):
        return NOT_RIGHT
    return None


def least(fitting):
    # min takes the first of several that are least, and what fits is in order
    numbers = min(fitting, key=sum)
    return [sum(numbers)] + numbers


def worth(told, shares, fitting, lot):
    weights = prize_shares(told, shares, lot)
    sums = [weighed(weights, numbers) for numbers in fitting]
    together = sum(shares)
    return [0] + fraction(min(sums), together) + fraction(max(sums), together)


def more(told, shares, fitting, first, second):
    gaps = prize_gaps(told, shares, first, second)
    smallest = min([weighed(gaps, numbers) for numbers in fitting])
    if smallest > 0:
        return [2]
    return [1] if smallest == 0 else [0]


def asked_of_numbers(told, shares, call, given):
    """Answer of a call that is refused where no numbers fit."""
    fitting = all_that_fit(told, shares)
    if len(fitting) == 0:
        return [NO_NUMBERS]
    if call == LEAST:
        return least(fitting)
    if call == WORTH:
        return worth(told, shares, fitting, given[0])
    return more(told, shares, fitting, given[0], given[1])


def asked(told, call, given):
    """Answer of any call from chances to more."""
    refusal = refusal_of_given(told, call, given)
    if refusal is not None:
        return [refusal]
    shares = chances_gone_by(told)
    if shares is None:
        return [NO_CHANCES]
    if call == CHANCES:
        return [sum(shares)] + shares
    if call == WAYS:
        return [len(all_that_fit(told, shares))]
    if call == FITS:
        return [1] if numbers_fit(told, shares, given) else [0]
    return asked_of_numbers(told, shares, call, given)

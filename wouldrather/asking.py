"""The calls that ask about chances and numbers, and change nothing."""

from wouldrather.clashing import all_clashes, all_to_spare
from wouldrather.codes import BEST, CHANCES, CLASHES, FITS, INEACH, LEARN, LEARNALL, LEAST, MAY, MAYBEST, MORE
from wouldrather.codes import NO_CHANCES, NO_NUMBERS, NONE_SUCH, NOT_RIGHT, NOTHING_THERE, PRIZES, SIDE, SPARE
from wouldrather.codes import WAYS, WORTH, WRONG
from wouldrather.comparing import best_lots, least_and_greatest_sum, least_numbers, no_worse_in_each_world
from wouldrather.comparing import prize_surely_more, some_agree, surely_more
from wouldrather.fitting import all_that_fit, disagreed_with, is_numbers, prize_shares, rather_gaps
from wouldrather.fraction import fraction
from wouldrather.learning import worth_of_learning_all, worth_of_learning_whether
from wouldrather.shares import chances_gone_by
from wouldrather.telling import has_lot, has_prize, is_kind, is_world_set


def counted(rows):
    return [len(rows)] + rows


def yes_or_no(yes):
    return [1] if yes else [0]


def lots_given(call, given):
    if call in (WORTH, MORE, INEACH, SIDE):
        return given
    return given[1:] if call == MAY else []


def is_given_there(told, call, given):
    """Whether there are all the lots and prizes that are given."""
    if call == PRIZES:
        return all([has_prize(told, prize) for prize in given])
    return all([has_lot(told, lot) for lot in lots_given(call, given)])


def is_given_right(told, call, given):
    if call in (FITS, WRONG):
        return is_numbers(told, given)
    if call == MAY:
        return is_kind(given[0])
    return call != LEARN or is_world_set(told, given[0])


def refusal_of_given(told, call, given):
    """The refusal that is due whatever the chances and numbers, or None."""
    if not is_given_there(told, call, given):
        return NONE_SUCH
    if not is_given_right(told, call, given):
        return NOT_RIGHT
    if call in (LEARN, LEARNALL) and len(told.lots) == 0:
        return NOTHING_THERE
    return None


def least(fitting):
    numbers = least_numbers(fitting)
    return [sum(numbers)] + numbers


def worth(told, shares, fitting, lot):
    ends = least_and_greatest_sum(told, shares, fitting, lot)
    together = sum(shares)
    return [0] + fraction(ends[0], together) + fraction(ends[1], together)


def clashes(told, shares):
    found = all_clashes(told, shares)
    # what can't go together holds a clash; so where there's none, some numbers fit
    return [NO_NUMBERS] if len(found) == 0 else counted(found)


def asked_of_two(told, shares, fitting, call, given):
    """Answer of a call that holds two against each other."""
    if call == MORE:
        return [surely_more(told, shares, fitting, given[0], given[1])]
    if call == MAY:
        return yes_or_no(some_agree(told, shares, fitting, given[0], given[1], given[2]))
    if call == INEACH:
        return yes_or_no(no_worse_in_each_world(told, fitting, given[0], given[1]))
    return [prize_surely_more(fitting, given[0], given[1])]


def asked_of_numbers(told, shares, call, given):
    """Answer of a call that is refused where no numbers fit."""
    fitting = all_that_fit(told, shares)
    if len(fitting) == 0:
        return [NO_NUMBERS]
    if call == LEAST:
        return least(fitting)
    if call == WORTH:
        return worth(told, shares, fitting, given[0])
    if call == BEST:
        return counted(best_lots(told, shares, fitting, len(fitting)))
    if call == MAYBEST:
        return counted(best_lots(told, shares, fitting, 1))
    if call == SPARE:
        return counted(all_to_spare(told, shares))
    if call == LEARN:
        return [0] + worth_of_learning_whether(told, shares, least_numbers(fitting), given[0])
    if call == LEARNALL:
        return [0] + worth_of_learning_all(told, shares, least_numbers(fitting))
    return asked_of_two(told, shares, fitting, call, given)


def asked(told, call, given):
    """Answer of any call from chances to side."""
    refusal = refusal_of_given(told, call, given)
    if refusal is not None:
        return [refusal]
    shares = chances_gone_by(told)
    if shares is None:
        return [NO_CHANCES]
    if call == CHANCES:
        return [sum(shares)] + shares
    if call == WAYS:
        return [len(all_that_fit(told, shares))]
    if call == FITS:
        return yes_or_no(len(disagreed_with(rather_gaps(told, shares), given)) == 0)
    if call == WRONG:
        return counted(disagreed_with(rather_gaps(told, shares), given))
    if call == SIDE:
        return counted(prize_shares(told, shares, given[0]))
    if call == CLASHES:
        return clashes(told, shares)
    return asked_of_numbers(told, shares, call, given)

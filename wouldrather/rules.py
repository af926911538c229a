"""What comes by rules of what is told likelier, with no shares gone by.

Of two sets only the worlds that are in one of them alone count: those in both
can be left out, and put to both again. So what is known is kept by these worlds,
a dict from (in the first alone, in the second alone) to 1 or 2.
"""

from wouldrather.members import set_of_all

NOTHING = 0
NO_LESS_LIKELY = 1
IS_LIKELIER = 2


def standing(known, first, second):
    return known.get((first & ~second, second & ~first), NOTHING)


def take_down(known, first, second, level):
    """Answers whether the level says more than what was known."""
    if level <= standing(known, first, second):
        return False
    known[(first & ~second, second & ~first)] = level
    return True


def take_down_told(known, kind, first, second):
    take_down(known, first, second, IS_LIKELIER if kind == 0 else NO_LESS_LIKELY)
    if kind == 2:
        take_down(known, second, first, NO_LESS_LIKELY)


def known_at_once(told):
    """What is known before anything is drawn from two that are known."""
    known = {}
    everything = set_of_all(told.worlds)
    for chosen in range(everything + 1):
        take_down(known, chosen, 0, NO_LESS_LIKELY)
    take_down(known, everything, 0, IS_LIKELIER)
    for kind, first, second in told.likelier:
        take_down_told(known, kind, first, second)
    return known


def go_on_from(known, sets, first, second):
    """Takes down how the first set stands to any third by way of the second; answers whether that was news."""
    ahead = standing(known, first, second)
    if ahead == NOTHING:
        return False
    news = False
    for third in range(sets):
        behind = standing(known, second, third)
        if behind != NOTHING and take_down(known, first, third, max(ahead, behind)):
            news = True
    return news


def go_on_from_all(known, sets):
    news = False
    for first in range(sets):
        for second in range(sets):
            if go_on_from(known, sets, first, second):
                news = True
    return news


def by_rules(told, first, second):
    """2 the first set is likelier than the second, 1 no less likely, 0 nothing is told of them."""
    known = known_at_once(told)
    news = True
    while news:
        news = go_on_from_all(known, set_of_all(told.worlds) + 1)
    return standing(known, first, second)

"""The calls that change what is told.

Each answers a pair: the call's answer, and what is told afterwards; the latter
is None where the call is refused, so that nothing changes.
"""

from wouldrather.codes import LIKELIER, LOT, NONE_SUCH, NOT_RIGHT, PRIZE, RATHER, TOO_MANY, UNLIKELIER, UNLOT
from wouldrather.telling import has_lot, has_lots, has_prize, is_kind, is_world_set
from wouldrather.telling import with_likelier, with_lots, with_rather

MOST_LIKELIER = 4
MOST_LOTS = 5
MOST_RATHER = 5


def refused(number):
    return ([number], None)


def without(rows, place):
    return rows[:place] + rows[place + 1:]


def replaced(rows, place, value):
    return rows[:place] + [value] + rows[place + 1:]


def tell_likelier(told, kind, first, second):
    if not is_kind(kind) or not is_world_set(told, first) or not is_world_set(told, second):
        return refused(NOT_RIGHT)
    if len(told.likelier) == MOST_LIKELIER:
        return refused(TOO_MANY)
    return ([len(told.likelier)], with_likelier(told, told.likelier + [(kind, first, second)]))


def untell_likelier(told, place):
    if place >= len(told.likelier):
        return refused(NONE_SUCH)
    left = without(told.likelier, place)
    return ([len(left)], with_likelier(told, left))


def is_prize_for_each_world(told, prizes):
    return len(prizes) == told.worlds and all([has_prize(told, prize) for prize in prizes])


def add_lot(told, prizes):
    if not is_prize_for_each_world(told, prizes):
        return refused(NOT_RIGHT)
    if len(told.lots) == MOST_LOTS:
        return refused(TOO_MANY)
    return ([len(told.lots)], with_lots(told, told.lots + [prizes]))


def moved_up(lot, gone):
    """The number a lot has once another one is gone."""
    return lot - 1 if lot > gone else lot


def rather_without_lot(rather, gone):
    left = []
    for kind, first, second in rather:
        if first != gone and second != gone:
            left.append((kind, moved_up(first, gone), moved_up(second, gone)))
    return left


def remove_lot(told, lot):
    if not has_lot(told, lot):
        return refused(NONE_SUCH)
    lots = without(told.lots, lot)
    rather = rather_without_lot(told.rather, lot)
    return ([len(lots), len(rather)], with_rather(with_lots(told, lots), rather))


def set_prize(told, lot, world, prize):
    if not has_lot(told, lot) or world >= told.worlds or not has_prize(told, prize):
        return refused(NONE_SUCH)
    prizes = told.lots[lot]
    lots = replaced(told.lots, lot, replaced(prizes, world, prize))
    return ([prizes[world]], with_lots(told, lots))


def tell_rather(told, kind, first, second):
    if not has_lots(told, first, second):
        return refused(NONE_SUCH)
    if not is_kind(kind):
        return refused(NOT_RIGHT)
    if len(told.rather) == MOST_RATHER:
        return refused(TOO_MANY)
    return ([len(told.rather)], with_rather(told, told.rather + [(kind, first, second)]))


def untell_rather(told, place):
    if place >= len(told.rather):
        return refused(NONE_SUCH)
    left = without(told.rather, place)
    return ([len(left)], with_rather(told, left))


def changed(told, call, given):
    """Answer and aftermath of any call from likelier to unrather."""
    if call == LIKELIER:
        return tell_likelier(told, given[0], given[1], given[2])
    if call == UNLIKELIER:
        return untell_likelier(told, given[0])
    if call == LOT:
        return add_lot(told, given)
    if call == UNLOT:
        return remove_lot(told, given[0])
    if call == PRIZE:
        return set_prize(told, given[0], given[1], given[2])
    if call == RATHER:
        return tell_rather(told, given[0], given[1], given[2])
    return untell_rather(told, given[0])

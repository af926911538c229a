"""The calls that ask for what was told, whatever the chances and numbers: rules, look and told."""

from wouldrather.codes import LOOK, NONE_SUCH, NOT_RIGHT, RULES
from wouldrather.rules import by_rules
from wouldrather.telling import has_lot, is_world_set


def look(told, lot):
    if not has_lot(told, lot):
        return [NONE_SUCH]
    return [told.worlds] + told.lots[lot]


def told_rather(told, place):
    if place >= len(told.rather):
        return [NONE_SUCH]
    return list(told.rather[place])


def asked_by_rules(told, first, second):
    if not is_world_set(told, first) or not is_world_set(told, second):
        return [NOT_RIGHT]
    return [by_rules(told, first, second)]


def recalled(told, call, given):
    """Answer of any call from rules to told."""
    if call == RULES:
        return asked_by_rules(told, given[0], given[1])
    if call == LOOK:
        return look(told, given[0])
    return told_rather(told, given[0])

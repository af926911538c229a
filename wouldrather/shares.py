"""Shares of the worlds, and the chances gone by."""

from wouldrather.members import is_member
from wouldrather.telling import holds

MOST_TOGETHER = 10


def splits(total, parts):
    """All lists of so many whole numbers that are total together, the lesser ahead at the first that differs."""
    if parts == 1:
        return [[total]]
    found = []
    for first in range(total + 1):
        for rest in splits(total - first, parts - 1):
            found.append([first] + rest)
    return found


def set_share(shares, chosen):
    return sum([share for world, share in enumerate(shares) if is_member(chosen, world)])


def shares_agree(likelier, shares):
    for kind, first, second in likelier:
        if not holds(kind, set_share(shares, first), set_share(shares, second)):
            return False
    return True


def chances_gone_by(told):
    """The shares that count, or None where none agree with what is told likelier."""
    for total in range(1, MOST_TOGETHER + 1):
        for shares in splits(total, told.worlds):
            if shares_agree(told.likelier, shares):
                return shares
    return None

"""What has been told: worlds, prizes, lots, and what is likelier or rather."""

LAST_KIND = 2


class Told:
    """All that was told up to some point.

    It is never changed, nor are its lists: a change makes another one, so that
    an older one can be kept and come back as it was. What is told likelier or
    rather is a tuple (kind, first, second); a lot is a list of prizes.
    """

    def __init__(self, worlds, prizes, likelier, lots, rather):
        self.worlds = worlds
        self.prizes = prizes
        self.likelier = likelier
        self.lots = lots
        self.rather = rather


def with_likelier(told, likelier):
    return Told(told.worlds, told.prizes, likelier, told.lots, told.rather)


def with_lots(told, lots):
    return Told(told.worlds, told.prizes, told.likelier, lots, told.rather)


def with_rather(told, rather):
    return Told(told.worlds, told.prizes, told.likelier, told.lots, rather)


def is_kind(kind):
    return kind <= LAST_KIND


def is_world_set(told, chosen):
    return chosen >> told.worlds == 0


def has_lot(told, lot):
    return lot < len(told.lots)


def has_lots(told, first, second):
    return has_lot(told, first) and has_lot(told, second)


def has_prize(told, prize):
    return prize < told.prizes


def holds(kind, first, second):
    """Whether two amounts stand to each other as the kind says."""
    if kind == 0:
        return first > second
    if kind == 1:
        return first >= second
    return first == second

"""One object: what is told, and the changes that can be taken back or done again."""

from wouldrather.asking import asked
from wouldrather.changes import changed
from wouldrather.codes import AGAIN, BACK, BEFORE_BEGIN, BEGIN, NOT_RIGHT, NOTHING_THERE, SIDE, STATE, UNRATHER
from wouldrather.recalling import recalled
from wouldrather.telling import Told

MOST_WORLDS = 4
MOST_PRIZES = 4
MOST_KEPT = 20


class Session:
    """before holds what was told ahead of each change that is kept, behind what
    was told after each that was taken back; the last of a list is the nearest.
    """

    def __init__(self):
        self.told = None
        self.before = []
        self.behind = []

    def answer(self, call, given):
        if call == BEGIN:
            return self.begin(given[0], given[1])
        if self.told is None:
            return [BEFORE_BEGIN]
        if call <= UNRATHER:
            return self.change(call, given)
        if call == BACK:
            return self.take_back()
        if call == AGAIN:
            return self.do_again()
        if call == STATE:
            return self.state()
        if call <= SIDE:
            return asked(self.told, call, given)
        return recalled(self.told, call, given)

    def begin(self, worlds, prizes):
        if not 1 <= worlds <= MOST_WORLDS or not 1 <= prizes <= MOST_PRIZES:
            return [NOT_RIGHT]
        self.told = Told(worlds, prizes, [], [], [])
        self.before = []
        self.behind = []
        return [0]

    def change(self, call, given):
        result = changed(self.told, call, given)
        if result[1] is not None:
            self.before = (self.before + [self.told])[-MOST_KEPT:]
            self.behind = []
            self.told = result[1]
        return result[0]

    def take_back(self):
        if len(self.before) == 0:
            return [NOTHING_THERE]
        self.behind.append(self.told)
        self.told = self.before.pop()
        return [len(self.before)]

    def do_again(self):
        if len(self.behind) == 0:
            return [NOTHING_THERE]
        self.before.append(self.told)
        self.told = self.behind.pop()
        return [len(self.behind)]

    def state(self):
        told = self.told
        counts = [len(rows) for rows in (told.likelier, told.lots, told.rather, self.before, self.behind)]
        return [told.worlds, told.prizes] + counts

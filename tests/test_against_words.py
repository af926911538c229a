"""Many lines of calls against a second reading of the document, written word by word and without haste.

It keeps what was done as a list of changes and does them all over again for each
question, so it shares no way of working with the package.
"""

import itertools
import random
import unittest
from fractions import Fraction

from helper import line, said, taken_apart
from wouldrather.rather import answers

STANDS = {0: lambda a, b: a > b, 1: lambda a, b: a >= b, 2: lambda a, b: a == b}
CHANGES = ("likelier", "unlikelier", "lot", "unlot", "prize", "rather", "unrather")


class Words:
    def __init__(self):
        self.size = None

    def answer(self, name, *given):
        if name == "begin":
            return self.begin(*given)
        if self.size is None:
            return [-11]
        if name in CHANGES:
            return self.changed(name, *given)
        return getattr(self, name)(*given)

    def begin(self, n, k):
        if n not in (1, 2, 3, 4) or k not in (1, 2, 3, 4):
            return [-22]
        self.size = (n, k)
        self.done, self.kept, self.undone = [], 0, []
        self.replay()
        return [0]

    def replay(self):
        self.n, self.k = self.size
        self.chance, self.lots, self.wish = [], [], []
        for name, given in self.done:
            getattr(self, "do_" + name)(*given)

    def changed(self, name, *given):
        refusal = getattr(self, "refuse_" + name)(*given)
        if refusal:
            return [refusal]
        self.done.append((name, given))
        self.kept, self.undone = min(20, self.kept + 1), []
        return getattr(self, "do_" + name)(*given)

    def back(self):
        if not self.kept:
            return [-6]
        self.undone.append(self.done.pop())
        self.kept -= 1
        self.replay()
        return [self.kept]

    def again(self):
        if not self.undone:
            return [-6]
        self.done.append(self.undone.pop())
        self.kept += 1
        self.replay()
        return [len(self.undone)]

    def refuse_likelier(self, k, a, b):
        sets = range(2 ** self.n)
        return -22 if k > 2 or a not in sets or b not in sets else -28 if len(self.chance) == 4 else 0

    def do_likelier(self, k, a, b):
        self.chance.append([k, a, b])
        return [len(self.chance) - 1]

    def refuse_unlikelier(self, t):
        return 0 if t in range(len(self.chance)) else -2

    def do_unlikelier(self, t):
        del self.chance[t]
        return [len(self.chance)]

    def refuse_lot(self, row):
        right = len(row) == self.n and set(row) <= set(range(self.k))
        return -22 if not right else -28 if len(self.lots) == 5 else 0

    def do_lot(self, row):
        self.lots.append(list(row))
        return [len(self.lots) - 1]

    def no_lot(self, *lots):
        return any(lot not in range(len(self.lots)) for lot in lots)

    def refuse_unlot(self, lot):
        return -2 if self.no_lot(lot) else 0

    def do_unlot(self, lot):
        del self.lots[lot]
        names = [at for at in range(len(self.lots) + 1) if at != lot]
        self.wish = [[k, names.index(a), names.index(b)] for k, a, b in self.wish if lot not in (a, b)]
        return [len(self.lots), len(self.wish)]

    def refuse_prize(self, lot, w, p):
        return -2 if self.no_lot(lot) or w not in range(self.n) or p not in range(self.k) else 0

    def do_prize(self, lot, w, p):
        had = self.lots[lot][w]
        self.lots[lot][w] = p
        return [had]

    def refuse_rather(self, k, a, b):
        return -2 if self.no_lot(a, b) else -22 if k > 2 else -28 if len(self.wish) == 5 else 0

    def do_rather(self, k, a, b):
        self.wish.append([k, a, b])
        return [len(self.wish) - 1]

    def refuse_unrather(self, t):
        return 0 if t in range(len(self.wish)) else -2

    def do_unrather(self, t):
        del self.wish[t]
        return [len(self.wish)]

    def shares(self):
        def part(shares, chosen):
            return sum(shares[i] for i in range(self.n) if chosen & 2 ** i)
        agree = [shares for shares in itertools.product(range(11), repeat=self.n) if 1 <= sum(shares) <= 10
                 and all(STANDS[k](part(shares, a), part(shares, b)) for k, a, b in self.chance)]
        return min(agree, key=lambda shares: (sum(shares), shares)) if agree else None

    def worth_by(self, lot, numbers):
        shares = self.now
        return Fraction(sum(shares[w] * numbers[self.lots[lot][w]] for w in range(self.n)), sum(shares))

    def agrees(self, numbers):
        return all(STANDS[k](self.worth_by(a, numbers), self.worth_by(b, numbers)) for k, a, b in self.wish)

    def fit(self):
        return [numbers for numbers in itertools.product(range(1, 9), repeat=self.k) if self.agrees(numbers)]

    def chances(self):
        self.now = self.shares()
        return [-61] if self.now is None else [sum(self.now), *self.now]

    def ways(self):
        self.now = self.shares()
        return [-61] if self.now is None else [len(self.fit())]

    def fits(self, row):
        if len(row) != self.k or not set(row) <= set(range(1, 9)):
            return [-22]
        self.now = self.shares()
        return [-61] if self.now is None else [int(self.agrees(row))]

    def by_fit(self, *lots):
        """A refusal, or all that fit."""
        if self.no_lot(*lots):
            return -2
        self.now = self.shares()
        return -61 if self.now is None else self.fit() or -33

    def least(self):
        fit = self.by_fit()
        if isinstance(fit, int):
            return [fit]
        together, numbers = min((sum(numbers), numbers) for numbers in fit)
        return [together, *numbers]

    def worth(self, lot):
        fit = self.by_fit(lot)
        if isinstance(fit, int):
            return [fit]
        worths = [self.worth_by(lot, numbers) for numbers in fit]
        ends = (min(worths), max(worths))
        return [0] + [number for end in ends for number in (end.numerator, end.denominator)]

    def more(self, a, b):
        fit = self.by_fit(a, b)
        if isinstance(fit, int):
            return [fit]
        pairs = [(self.worth_by(a, numbers), self.worth_by(b, numbers)) for numbers in fit]
        return [2 if all(x > y for x, y in pairs) else 1 if all(x >= y for x, y in pairs) else 0]


class Chooser:
    """Makes up lines: mostly what is right, now and then what is not."""

    def __init__(self, seed):
        self.dice = random.Random(seed)

    def below(self, bound):
        if self.dice.random() < 0.04:
            return self.dice.choice((bound, bound + 1, 4294967295))
        return self.dice.randrange(max(1, bound))

    def row(self, size, low, high):
        if self.dice.random() < 0.06:
            size = self.dice.choice((0, size - 1, size + 1))
        return [low + self.below(high - low + 1) for place in range(size)]

    def call(self, name, words):
        n, k, lots = words.n, words.k, len(words.lots)
        kind = self.below(3)
        given = {"likelier": (kind, self.below(2 ** n), self.below(2 ** n)), "unlikelier": (self.below(len(words.chance)),),
                 "lot": (self.row(n, 0, k - 1),), "unlot": (self.below(lots),), "worth": (self.below(lots),),
                 "prize": (self.below(lots), self.below(n), self.below(k)), "fits": (self.row(k, 1, 8),),
                 "rather": (kind, self.below(lots), self.below(lots)), "unrather": (self.below(len(words.wish)),),
                 "more": (self.below(lots), self.below(lots))}
        return (name,) + given.get(name, ())

    def line(self, worlds, prizes, often):
        """Calls and what the words answer; a call is chosen by what is there when its turn comes."""
        words = Words()
        lots = self.dice.randrange(6)
        calls, wanted = [], []
        while len(calls) < 30:
            if not calls or self.dice.random() < 0.01:
                call = ("begin", self.dice.choice(worlds), self.dice.choice(prizes))
            elif len(calls) <= lots:
                call = self.call("lot", words)
            else:
                call = self.call(self.dice.choices(list(often), list(often.values()))[0], words)
            calls.append(call)
            wanted.append(words.answer(*call))
        return calls, wanted


OFTEN = {"likelier": 3, "unlikelier": 1, "lot": 3, "unlot": 1, "prize": 2, "rather": 5, "unrather": 1, "back": 3,
         "again": 3, "chances": 3, "ways": 2, "least": 3, "fits": 3, "worth": 3, "more": 4}
FEW = dict(OFTEN, chances=1, ways=1, least=1, fits=1, worth=1, more=1)
STEPS = {"lot": 4, "prize": 8, "rather": 2, "back": 3, "again": 2, "likelier": 1, "unlot": 1}


class AgainstWords(unittest.TestCase):
    def compare(self, seed, worlds, prizes, often):
        calls, wanted = Chooser(seed).line(worlds, prizes, often)
        handed = line(calls)
        before = list(handed)
        self.assertEqual(said(*calls), wanted, (seed, calls))
        self.assertEqual(taken_apart(answers(handed)), wanted)
        self.assertEqual(handed, before)

    def test_small(self):
        for seed in range(600):
            self.compare(seed, (1, 2, 3), (1, 2), OFTEN)

    def test_larger(self):
        for seed in range(1000, 1200):
            self.compare(seed, (2, 3), (2, 3), OFTEN)

    def test_largest(self):
        for seed in range(2000, 2040):
            self.compare(seed, (3, 4), (3, 4), FEW)

    def test_many_changes(self):
        for seed in range(3000, 3200):
            self.compare(seed, (1, 2, 3), (1, 2, 3), STEPS)


if __name__ == "__main__":
    unittest.main()

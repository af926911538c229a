"""Many lines of calls against a second reading of the document, written word by word and without haste.

It keeps what was done as a list of changes and does them all over again for each
question, so it shares no way of working with the package.
"""

import itertools
import random
import unittest
from fractions import Fraction

from helper import line, said, taken_apart
from wouldrather.rather import answers

STANDS = {0: lambda a, b: a > b, 1: lambda a, b: a >= b, 2: lambda a, b: a == b}
CHANGES = ("likelier", "unlikelier", "lot", "unlot", "prize", "rather", "unrather")


class Words:
    def __init__(self):
        self.size = self.reckoned = self.ruled = None

    def answer(self, name, *given):
        if name == "begin":
            return self.begin(*given)
        if self.size is None:
            return [-11]
        if name in CHANGES:
            return self.changed(name, *given)
        return getattr(self, name)(*given)

    def begin(self, n, k):
        if n not in (1, 2, 3, 4) or k not in (1, 2, 3, 4):
            return [-22]
        self.size = (n, k)
        self.done, self.kept, self.undone = [], 0, []
        self.replay()
        return [0]

    def replay(self):
        self.n, self.k = self.size
        self.chance, self.lots, self.wish = [], [], []
        for name, given in self.done:
            getattr(self, "do_" + name)(*given)

    def changed(self, name, *given):
        refusal = getattr(self, "refuse_" + name)(*given)
        if refusal:
            return [refusal]
        self.done.append((name, given))
        self.kept, self.undone = min(20, self.kept + 1), []
        return getattr(self, "do_" + name)(*given)

    def back(self):
        if not self.kept:
            return [-6]
        self.undone.append(self.done.pop())
        self.kept -= 1
        self.replay()
        return [self.kept]

    def again(self):
        if not self.undone:
            return [-6]
        self.done.append(self.undone.pop())
        self.kept += 1
        self.replay()
        return [len(self.undone)]

    def refuse_likelier(self, k, a, b):
        sets = range(2 ** self.n)
        return -22 if k > 2 or a not in sets or b not in sets else -28 if len(self.chance) == 4 else 0

    def do_likelier(self, k, a, b):
        self.chance.append([k, a, b])
        return [len(self.chance) - 1]

    def refuse_unlikelier(self, t):
        return 0 if t in range(len(self.chance)) else -2

    def do_unlikelier(self, t):
        del self.chance[t]
        return [len(self.chance)]

    def refuse_lot(self, row):
        right = len(row) == self.n and set(row) <= set(range(self.k))
        return -22 if not right else -28 if len(self.lots) == 5 else 0

    def do_lot(self, row):
        self.lots.append(list(row))
        return [len(self.lots) - 1]

    def no_lot(self, *lots):
        return any(lot not in range(len(self.lots)) for lot in lots)

    def refuse_unlot(self, lot):
        return -2 if self.no_lot(lot) else 0

    def do_unlot(self, lot):
        del self.lots[lot]
        names = [at for at in range(len(self.lots) + 1) if at != lot]
        self.wish = [[k, names.index(a), names.index(b)] for k, a, b in self.wish if lot not in (a, b)]
        return [len(self.lots), len(self.wish)]

    def refuse_prize(self, lot, w, p):
        return -2 if self.no_lot(lot) or w not in range(self.n) or p not in range(self.k) else 0

    def do_prize(self, lot, w, p):
        had = self.lots[lot][w]
        self.lots[lot][w] = p
        return [had]

    def refuse_rather(self, k, a, b):
        return -2 if self.no_lot(a, b) else -22 if k > 2 else -28 if len(self.wish) == 5 else 0

    def do_rather(self, k, a, b):
        self.wish.append([k, a, b])
        return [len(self.wish) - 1]

    def refuse_unrather(self, t):
        return 0 if t in range(len(self.wish)) else -2

    def do_unrather(self, t):
        del self.wish[t]
        return [len(self.wish)]

    def shares(self):
        def part(shares, chosen):
            return sum(shares[i] for i in range(self.n) if chosen & 2 ** i)
        agree = [shares for shares in itertools.product(range(11), repeat=self.n) if 1 <= sum(shares) <= 10
                 and all(STANDS[k](part(shares, a), part(shares, b)) for k, a, b in self.chance)]
        return min(agree, key=lambda shares: (sum(shares), shares)) if agree else None

    def reckon(self):
        """The shares, and of all numbers whether each that is told rather agrees; anew if something changed."""
        now = repr((self.size, self.chance, self.lots, self.wish))
        if self.reckoned != now:
            self.reckoned, self.now, self.table = now, self.shares(), {}
            if self.now is not None:
                for numbers in itertools.product(range(1, 9), repeat=self.k):
                    self.table[numbers] = [self.stands(k, a, b, numbers) for k, a, b in self.wish]
        return self.now

    def part_of(self, lot, numbers, worlds):
        return sum(self.now[w] * numbers[self.lots[lot][w]] for w in worlds)

    def worth_by(self, lot, numbers):
        return Fraction(self.part_of(lot, numbers, range(self.n)), sum(self.now))

    def stands(self, k, a, b, numbers):
        return STANDS[k](self.part_of(a, numbers, range(self.n)), self.part_of(b, numbers, range(self.n)))

    def fit(self):
        return [numbers for numbers, agree in self.table.items() if all(agree)]

    def by_shares(self, answer):
        return [-61] if self.reckon() is None else answer()

    def by_fit(self, answer):
        return self.by_shares(lambda: answer(self.fit()) if self.fit() else [-33])

    def by_lots(self, lots, answer):
        return [-2] if self.no_lot(*lots) else self.by_fit(answer)

    def chances(self):
        return self.by_shares(lambda: [sum(self.now), *self.now])

    def ways(self):
        return self.by_shares(lambda: [len(self.fit())])

    def no_numbers(self, row):
        return len(row) != self.k or not set(row) <= set(range(1, 9))

    def fits(self, row):
        return [-22] if self.no_numbers(row) else self.by_shares(lambda: [int(tuple(row) in self.fit())])

    def wrong(self, row):
        def answer():
            found = [t for t, (k, a, b) in enumerate(self.wish) if not self.stands(k, a, b, row)]
            return [len(found), *found]
        return [-22] if self.no_numbers(row) else self.by_shares(answer)

    def side(self, lot):
        def answer():
            return [self.k] + [sum(self.now[w] for w in range(self.n) if self.lots[lot][w] == p) for p in range(self.k)]
        return [-2] if self.no_lot(lot) else self.by_shares(answer)

    def least_of(self, fit):
        return min((sum(numbers), numbers) for numbers in fit)[1]

    def least(self):
        return self.by_fit(lambda fit: [sum(self.least_of(fit)), *self.least_of(fit)])

    def worth(self, lot):
        def answer(fit):
            worths = [self.worth_by(lot, numbers) for numbers in fit]
            ends = (min(worths), max(worths))
            return [0] + [number for end in ends for number in (end.numerator, end.denominator)]
        return self.by_lots((lot,), answer)

    def two_of(self, pairs):
        return [2 if all(x > y for x, y in pairs) else 1 if all(x >= y for x, y in pairs) else 0]

    def more(self, a, b):
        return self.by_lots((a, b), lambda fit: self.two_of([(self.worth_by(a, x), self.worth_by(b, x)) for x in fit]))

    def prizes(self, p, q):
        right = p in range(self.k) and q in range(self.k)
        return self.by_fit(lambda fit: self.two_of([(x[p], x[q]) for x in fit])) if right else [-2]

    def may(self, k, a, b):
        if k > 2 and not self.no_lot(a, b):
            return [-22]
        return self.by_lots((a, b), lambda fit: [int(any(self.stands(k, a, b, x) for x in fit))])

    def ineach(self, a, b):
        def answer(fit):
            return [int(all(x[self.lots[a][w]] >= x[self.lots[b][w]] for x in fit for w in range(self.n)))]
        return self.by_lots((a, b), answer)

    def best_by(self, every):
        def answer(fit):
            def as_any(lot, x):
                return all(self.stands(1, lot, other, x) for other in range(len(self.lots)))
            found = [lot for lot in range(len(self.lots)) if every(as_any(lot, x) for x in fit)]
            return [len(found), *found]
        return self.by_fit(answer)

    def best(self):
        return self.best_by(all)

    def maybest(self):
        return self.best_by(any)

    def spare(self):
        def answer(fit):
            def fit_without(t):
                return sum(all(agree[:t] + agree[t + 1:]) for agree in self.table.values())
            found = [t for t in range(len(self.wish)) if fit_without(t) == len(fit)]
            return [len(found), *found]
        return self.by_fit(answer)

    def some_agree(self, chosen):
        return any(all(agree[t] for t in chosen) for agree in self.table.values())

    def clashes(self):
        def answer():
            if self.fit():
                return [-33]
            sets = [chosen for size in range(6) for chosen in itertools.combinations(range(len(self.wish)), size)]
            found = sorted(sum(2 ** t for t in chosen) for chosen in sets if not self.some_agree(chosen)
                           and all(self.some_agree([t for t in chosen if t != out]) for out in chosen))
            return [len(found), *found]
        return self.by_shares(answer)

    def learn_parts(self, parts):
        def answer(fit):
            def top(worlds):
                return max(self.part_of(lot, self.least_of(fit), worlds) for lot in range(len(self.lots)))
            gain = Fraction(sum(top(part) for part in parts) - top(range(self.n)), sum(self.now))
            return [0, gain.numerator, gain.denominator]
        return self.by_fit(answer) if self.lots else [-6]

    def learn(self, s):
        if s not in range(2 ** self.n):
            return [-22]
        return self.learn_parts([[w for w in range(self.n) if bool(s & 2 ** w) == real] for real in (True, False)])

    def learnall(self):
        return self.learn_parts([[w] for w in range(self.n)])

    def rules(self, a, b):
        if a not in range(2 ** self.n) or b not in range(2 ** self.n):
            return [-22]
        now = repr((self.size, self.chance))
        if self.ruled != now:
            self.ruled, self.level = now, drawn_by_rules(self.n, self.chance)
        return [self.level.get((a, b), 0)]

    def look(self, lot):
        return [-2] if self.no_lot(lot) else [self.n, *self.lots[lot]]

    def told(self, t):
        return list(self.wish[t]) if t in range(len(self.wish)) else [-2]

    def state(self):
        return [self.n, self.k, len(self.chance), len(self.lots), len(self.wish), self.kept, len(self.undone)]


def drawn_by_rules(n, chance):
    """Each rule used on each that is there, till nothing new comes: (first, second) to 1 or 2."""
    sets = range(2 ** n)
    level = {(a, b): 1 for a in sets for b in sets if a | b == a}
    fresh = [(sets[-1], 0, 2)] + [(a, b, 2 if k == 0 else 1) for k, a, b in chance]
    fresh += [(b, a, 1) for k, a, b in chance if k == 2] + [(a, b, 1) for a, b in level]
    while fresh:
        for a, b, much in fresh:
            level[a, b] = max(much, level.get((a, b), 0))
        drawn = [(a, c, max(much, more)) for (a, b), much in level.items()
                 for (again, c), more in level.items() if again == b]
        for (a, b), much in level.items():
            drawn += [(a | c, b | c, much) for c in sets if not c & (a | b)]
            drawn += [(a - c, b - c, much) for c in sets if c & a & b == c]
        fresh = sorted({(a, b, much) for a, b, much in drawn if much > level.get((a, b), 0)})
    return level


class Chooser:
    """Makes up lines: mostly what is right, now and then what is not."""

    def __init__(self, seed):
        self.dice = random.Random(seed)

    def below(self, bound):
        if self.dice.random() < 0.04:
            return self.dice.choice((bound, bound + 1, 4294967295))
        return self.dice.randrange(max(1, bound))

    def row(self, size, low, high):
        if self.dice.random() < 0.06:
            size = self.dice.choice((0, size - 1, size + 1))
        return [low + self.below(high - low + 1) for place in range(size)]

    def call(self, name, words):
        n, k, lots = words.n, words.k, len(words.lots)
        kind = self.below(3)
        given = {"likelier": (kind, self.below(2 ** n), self.below(2 ** n)), "unlikelier": (self.below(len(words.chance)),),
                 "lot": (self.row(n, 0, k - 1),), "unlot": (self.below(lots),), "worth": (self.below(lots),),
                 "prize": (self.below(lots), self.below(n), self.below(k)), "fits": (self.row(k, 1, 8),),
                 "rather": (kind, self.below(lots), self.below(lots)), "unrather": (self.below(len(words.wish)),),
                 "more": (self.below(lots), self.below(lots)), "may": (kind, self.below(lots), self.below(lots)),
                 "ineach": (self.below(lots), self.below(lots)), "prizes": (self.below(k), self.below(k)),
                 "learn": (self.below(2 ** n),), "wrong": (self.row(k, 1, 8),), "side": (self.below(lots),),
                 "rules": (self.below(2 ** n), self.below(2 ** n)), "look": (self.below(lots),),
                 "told": (self.below(len(words.wish)),)}
        return (name,) + given.get(name, ())

    def one(self, often, words):
        return self.call(self.dice.choices(list(often), list(often.values()))[0], words)

    def line(self, worlds, prizes, often):
        """Calls and what the words answer; a call is chosen by what is there when its turn comes."""
        words = Words()
        lots = self.dice.randrange(6)
        calls, wanted = [], []
        while len(calls) < 30:
            if not calls or self.dice.random() < 0.01:
                call = ("begin", self.dice.choice(worlds), self.dice.choice(prizes))
            elif len(calls) <= lots:
                call = self.call("lot", words)
            else:
                call = self.one(often, words)
            calls.append(call)
            wanted.append(words.answer(*call))
        return calls, wanted

    def telling(self, name, ahead, other, reckoned):
        """Tells, of two, what is so by what was reckoned of both."""
        if reckoned(ahead) < reckoned(other):
            ahead, other = other, ahead
        tightest = 0 if reckoned(ahead) > reckoned(other) else 2
        return (name, self.dice.choice((tightest, tightest, tightest, 1)), ahead, other)

    def ground(self, words, n, k):
        """Calls that tell of several worlds with a share, of unlike lots, and mostly what can be."""
        truth = [self.dice.randrange(1, 5) for world in range(n)]
        numbers = [self.dice.randrange(1, 9) for prize in range(k)]
        calls = [("begin", n, k)]
        words.answer(*calls[0])
        single = [2 ** world for world in range(n)]
        for step in range(self.dice.choice((2, 3, 4))):
            first, second = self.dice.sample(self.dice.choice((single, [0] + single, range(2 ** n))), 2)
            calls.append(self.telling("likelier", first, second,
                                      lambda chosen: sum(truth[w] for w in range(n) if chosen & 2 ** w)))
            words.answer(*calls[-1])
        for step in range(self.dice.choice((3, 4, 5))):
            calls.append(("lot", [self.dice.randrange(k) for world in range(n)]))
            words.answer(*calls[-1])
        words.reckon()
        for step in range(self.dice.randrange(6)):
            first, second = self.dice.sample(range(len(words.lots)), 2)
            call = self.telling("rather", first, second, lambda lot: words.worth_by(lot, numbers))
            calls.append(call if self.dice.random() < 0.9 else ("rather", call[1], call[3], call[2]))
            words.answer(*calls[-1])
        return calls

    def rich_line(self, worlds, prizes, often):
        words = Words()
        calls = self.ground(words, self.dice.choice(worlds), self.dice.choice(prizes))
        wanted = [None] * len(calls)
        while len(calls) < 30:
            calls.append(self.one(often, words))
            wanted.append(words.answer(*calls[-1]))
        return calls, wanted


CHANGING = {"likelier": 3, "unlikelier": 1, "lot": 3, "unlot": 1, "prize": 2, "rather": 5, "unrather": 1, "back": 3,
            "again": 3}
ASKING = ("chances", "ways", "least", "fits", "worth", "more", "may", "ineach", "best", "maybest", "prizes", "learn",
          "learnall", "clashes", "spare", "wrong", "side", "rules", "look", "told", "state")
OFTEN = dict(CHANGING, **{name: 1.2 for name in ASKING})
ASKED = dict({name: 1 for name in ASKING}, prize=1, unrather=1, rather=1, back=1, again=1)
STEPS = {"lot": 4, "prize": 8, "rather": 2, "back": 3, "again": 2, "likelier": 1, "unlot": 1, "state": 1, "look": 1}


class AgainstWords(unittest.TestCase):
    def compare(self, seed, worlds, prizes, often):
        calls, wanted = Chooser(seed).line(worlds, prizes, often)
        handed = line(calls)
        before = list(handed)
        self.assertEqual(said(*calls), wanted, (seed, calls))
        self.assertEqual(taken_apart(answers(handed)), wanted)
        self.assertEqual(handed, before)

    def test_small(self):
        for seed in range(900):
            self.compare(seed, (1, 2, 3), (1, 2), OFTEN)

    def test_larger(self):
        for seed in range(1000, 1300):
            self.compare(seed, (2, 3), (2, 3), OFTEN)

    def test_largest(self):
        for seed in range(2000, 2040):
            self.compare(seed, (3, 4), (3, 4), OFTEN)

    def test_many_changes(self):
        for seed in range(3000, 3200):
            self.compare(seed, (1, 2, 3), (1, 2, 3), STEPS)

    def test_rich(self):
        for seed in range(4000, 4300):
            calls, wanted = Chooser(seed).rich_line((2, 3, 4), (2, 3), ASKED)
            for call, found, answer in zip(calls, said(*calls), wanted):
                self.assertIn(answer, (found, None), (seed, call, calls))

    def test_all_is_asked_at_the_edges(self):
        for seed, edge in enumerate(itertools.product((1, 4), (1, 4), (0, 4), (0, 5), (0, 5))):
            n, k, likelier, lots, rather = edge
            chooser, words = Chooser(seed), Words()
            calls, wanted = [("begin", n, k)], [words.answer("begin", n, k)]
            names = ["likelier"] * likelier + ["lot"] * lots + ["rather"] * (rather if lots else 0)
            for name in names + chooser.dice.sample(ASKING, 15):
                calls.append(chooser.call(name, words))
                wanted.append(words.answer(*calls[-1]))
            self.assertEqual(said(*calls), wanted, (edge, calls))


if __name__ == "__main__":
    unittest.main()

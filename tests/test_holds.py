"""What holds over the whole program, over many lists of calls."""

import itertools
import random
import unittest
from fractions import Fraction

from helper import last, line, said, taken_apart
from test_against_words import ASKING, Chooser, Words
from wouldrather.rather import answers

SINGLE_STEPS = {2: [(1, 2), (2, 0)], 3: [(1, 2), (2, 4), (4, 0)], 4: [(1, 2), (2, 4), (4, 8), (8, 0)]}


def grounds(seeds, worlds, prizes):
    """Calls that tell of unlike lots and of worlds with a share; of each how many lots there are."""
    for seed in seeds:
        chooser, words = Chooser(seed), Words()
        calls = chooser.ground(words, chooser.dice.choice(worlds), chooser.dice.choice(prizes))
        if words.ways()[0] > 0:
            yield calls, len(words.lots)


def spread_grounds(seeds):
    """Calls by which each world has a share of its own and prizes have unlike numbers."""
    for seed in seeds:
        dice = random.Random(seed)
        n = dice.choice((2, 3, 4))
        chances = [("likelier", dice.choice((0, 0, 2)) if pair[1] else 0) + pair for pair in SINGLE_STEPS[n]]
        lots = [("lot", [dice.randrange(3) for world in range(n)]) for one in range(3)]
        # Prize 0 is told over prize 1, by a lot that has it in the least likely world alone.
        steps = [("lot", [1] * (n - 1) + [0]), ("lot", [1] * n), ("rather", 0, 3, 4)]
        calls = [("begin", n, 3), *chances, *lots, *steps]
        if last(*calls, ("ways",))[0] > 0:
            yield calls, n


class WhatHolds(unittest.TestCase):
    def test_no_worse_in_any_world_is_worth_no_less(self):
        seen = {0: 0, 1: 0}
        for calls, lots in grounds(range(150), (2, 3, 4), (2, 3)):
            pairs = list(itertools.permutations(range(lots), 2))[:6]
            asked = [call for pair in pairs for call in (("ineach",) + pair, ("more",) + pair)]
            found = [answer[0] for answer in said(*calls, *asked)[len(calls):]]
            for ineach, more in zip(found[::2], found[1::2]):
                seen[ineach] += 1
                self.assertGreaterEqual(more, ineach)
        self.assertGreater(min(seen.values()), 100)

    def test_to_learn_is_never_below_nothing_and_to_learn_all_no_less_than_any(self):
        above, between = 0, 0
        for calls, n in spread_grounds(range(120)):
            every = last(*calls, ("learnall",))
            self.assertEqual(every[0], 0)
            whole = Fraction(every[1], every[2])
            found = said(*calls, *[("learn", chosen) for chosen in range(2 ** n)])[len(calls):]
            parts = [Fraction(upper, lower) for zero, upper, lower in found]
            for part in parts:
                self.assertGreaterEqual(part, 0)
                self.assertLessEqual(part, whole)
            self.assertEqual((parts[0], parts[-1]), (0, 0))
            # Whether it is of a set is whether it is of the others.
            self.assertEqual(parts, parts[::-1])
            above += max(parts) > 0
            between += 0 < max(parts) < whole
        self.assertGreater(above, 25)
        self.assertGreater(between, 5)

    def test_learning_of_any_told_ground(self):
        for calls, lots in grounds(range(200, 300), (2, 3), (2, 3)):
            found = said(*calls, ("learnall",), *[("learn", chosen) for chosen in (1, 2, 3)])[len(calls):]
            worths = [Fraction(upper, lower) for zero, upper, lower in found]
            self.assertGreaterEqual(min(worths), 0)
            self.assertEqual(max(worths), worths[0])

    def test_worlds_in_which_two_lots_are_alike_do_not_matter(self):
        for seed in range(60):
            dice = random.Random(seed)
            n = dice.choice((2, 3, 4))
            alike = dice.randrange(n)
            rows = [[dice.randrange(3) for world in range(n)] for one in range(2)]
            found = set()
            for prize in range(3):
                for row in rows:
                    row[alike] = prize
                chances = [("likelier", 0) + pair for pair in SINGLE_STEPS[n]]
                told = [("lot", [0] * n), ("lot", [1] * n), ("rather", 0, 0, 1)]
                calls = [("begin", n, 3), *chances, *told, ("lot", rows[0]), ("lot", rows[1])]
                asked = [("more", 2, 3), ("more", 3, 2), ("ineach", 2, 3), *[("may", kind, 2, 3) for kind in (0, 1, 2)],
                         ("rather", seed % 3, 2, 3), ("ways",), ("wrong", [3, 1, 2])]
                found.add(str(said(*calls, *asked)[len(calls):]))
            self.assertEqual(len(found), 1)

    def test_all_that_fit_are_told(self):
        rows = [list(row) for row in itertools.product(range(1, 9), repeat=2)]
        for calls, lots in grounds(range(400, 430), (2, 3), (2,)):
            fit = []
            for row in rows:
                fits, wrong = said(*calls, ("fits", row), ("wrong", row))[-2:]
                self.assertEqual(fits, [int(wrong == [0])])
                fit += [row] if fits == [1] else []
            ways, least, prizes = said(*calls, ("ways",), ("least",), ("prizes", 0, 1))[-3:]
            self.assertEqual(ways, [len(fit)])
            self.assertEqual(least[1:], min(fit, key=lambda row: (sum(row), row)))
            smallest = min(row[0] - row[1] for row in fit)
            self.assertEqual(prizes, [2 if smallest > 0 else 1 if smallest == 0 else 0])

    def test_best_and_maybest_by_more_and_may(self):
        for calls, lots in grounds(range(500, 560), (2, 3), (2, 3)):
            best, maybest = said(*calls, ("best",), ("maybest",))[-2:]
            for lot in range(lots):
                others = [other for other in range(lots) if other != lot]
                no_less = [answer[0] > 0 for answer in said(*calls, *[("more", lot, other) for other in others])[len(calls):]]
                self.assertEqual(lot in best[1:], all(no_less))
                may = [answer[0] == 1 for answer in said(*calls, *[("may", 1, lot, other) for other in others])[len(calls):]]
                self.assertLessEqual(lot in maybest[1:], all(may))
            self.assertLessEqual(set(best[1:]), set(maybest[1:]))
            self.assertGreater(maybest[0], 0)

    def test_what_was_told_is_told_of_lots_that_are_there(self):
        for seed in range(100):
            dice = random.Random(seed)
            lots = [("lot", [dice.randrange(2)]) for one in range(5)]
            told = [("rather", dice.randrange(3), dice.randrange(5), dice.randrange(5)) for one in range(5)]
            gone = [("unlot", dice.randrange(5 - step)) for step in range(dice.choice((1, 2, 3, 4)))]
            calls = [("begin", 1, 2), *lots, *told, *gone]
            state = last(*calls, ("state",))
            self.assertEqual(state[3], 5 - len(gone))
            for place in range(state[4]):
                kind, first, second = last(*calls, ("told", place))
                self.assertLess(max(first, second), state[3])
            self.assertEqual(last(*calls, ("told", state[4])), [-2])

    def test_what_is_asked_or_refused_changes_nothing(self):
        for seed in range(150):
            chooser, words = Chooser(seed), Words()
            calls = chooser.ground(words, chooser.dice.choice((1, 2, 3)) + 1, chooser.dice.choice((1, 2, 3)))
            calls += [("back",)] * chooser.dice.randrange(3)
            asked = [chooser.call(name, words) for name in chooser.dice.sample(ASKING, 3)]
            refused = [("lot", [9]), ("likelier", 3, 0, 0), ("unlot", 9), ("rather", 0, 9, 9), ("begin", 0, 9)]
            behind = [("state",), ("again",), ("state",), ("back",), ("back",), ("state",)]
            plain = said(*calls, *behind)[len(calls):]
            found = said(*calls, *asked, chooser.dice.choice(refused), *behind)[-len(behind):]
            self.assertEqual(found, plain)

    def test_the_same_list_gives_the_same_and_stays(self):
        for seed in range(100):
            handed = line(Chooser(seed).ground(Words(), 3, 2) + [("best",), ("spare",), ("clashes",), ("learnall",)])
            before = list(handed)
            first = answers(handed)
            self.assertEqual(handed, before)
            self.assertEqual(answers(handed), first)
            self.assertEqual(handed, before)
            taken_apart(first)


if __name__ == "__main__":
    unittest.main()

"""rules: each sentence of "By rules" by itself, several together, and what can't be."""

import itertools
import random
import unittest

from helper import last, said

BIG = 4294967295


class ByRules(unittest.TestCase):
    def rules(self, worlds, told, *pairs):
        """The answers of all pairs, one behind another."""
        ground = [("begin", worlds, 1), *[("likelier",) + one for one in told]]
        found = []
        for pair in pairs:
            found.append(last(*ground, ("rules",) + pair)[0])
        return found

    def every(self, worlds, told):
        """(first, second) to what is told by rules, of all sets."""
        ground = [("begin", worlds, 1), *[("likelier",) + one for one in told]]
        pairs = list(itertools.product(range(2 ** worlds), repeat=2))
        found = {}
        for place in range(0, len(pairs), 25):
            some = pairs[place:place + 25]
            answered = said(*ground, *[("rules",) + pair for pair in some])[len(ground):]
            found.update(zip(some, [answer[0] for answer in answered]))
        return found


class EachSentence(ByRules):
    def test_no_less_likely_than_any_that_has_no_other_worlds(self):
        for worlds in (1, 2, 3, 4):
            everything = 2 ** worlds - 1
            for (a, b), answer in self.every(worlds, []).items():
                wanted = 2 if (a, b) == (everything, 0) else 1 if a | b == a else 0
                self.assertEqual(answer, wanted, (worlds, a, b))

    def test_all_worlds_are_likelier_than_none(self):
        for worlds in (1, 2, 3, 4):
            self.assertEqual(self.rules(worlds, [], (2 ** worlds - 1, 0), (0, 2 ** worlds - 1)), [2, 0])

    def test_what_was_told(self):
        pairs = ((1, 2), (2, 1))
        self.assertEqual(self.rules(2, [(0, 1, 2)], *pairs), [2, 0])
        self.assertEqual(self.rules(2, [(1, 1, 2)], *pairs), [1, 0])
        self.assertEqual(self.rules(2, [(2, 1, 2)], *pairs), [1, 1])
        self.assertEqual(self.rules(2, [(0, 2, 1)], *pairs), [0, 2])
        self.assertEqual(self.rules(2, [(1, 2, 1)], *pairs), [0, 1])

    def test_the_most_that_was_told(self):
        self.assertEqual(self.rules(2, [(1, 1, 2), (0, 1, 2), (2, 1, 2)], (1, 2)), [2])
        self.assertEqual(self.rules(2, [(0, 1, 2), (1, 1, 2)], (1, 2), (2, 1)), [2, 0])

    def test_a_third_by_way_of_a_second(self):
        self.assertEqual(self.rules(3, [(1, 1, 2), (1, 2, 4)], (1, 4), (4, 1)), [1, 0])
        self.assertEqual(self.rules(3, [(2, 1, 2), (2, 2, 4)], (1, 4), (4, 1)), [1, 1])

    def test_likelier_if_one_of_both_is(self):
        for first, second in ((0, 0), (0, 1), (1, 0), (0, 2), (2, 0)):
            self.assertEqual(self.rules(3, [(first, 1, 2), (second, 2, 4)], (1, 4), (4, 1)), [2, 0])

    def test_three_steps(self):
        told = [(1, 1, 2), (1, 2, 4), (0, 4, 8)]
        self.assertEqual(self.rules(4, told, (1, 8), (1, 4), (2, 8), (8, 1)), [2, 1, 2, 0])

    def test_worlds_in_neither_put_to_both(self):
        for kind, ahead, other in ((0, 2, 0), (1, 1, 0), (2, 1, 1)):
            self.assertEqual(self.rules(4, [(kind, 1, 2)], (5, 6), (9, 10), (13, 14)), [ahead] * 3)
            self.assertEqual(self.rules(4, [(kind, 1, 2)], (6, 5), (10, 9), (14, 13)), [other] * 3)

    def test_worlds_in_both_left_out(self):
        for kind, ahead, other in ((0, 2, 0), (1, 1, 0), (2, 1, 1)):
            self.assertEqual(self.rules(4, [(kind, 13, 14)], (1, 2), (5, 6), (9, 10)), [ahead] * 3)
            self.assertEqual(self.rules(4, [(kind, 13, 14)], (2, 1), (6, 5), (10, 9)), [other] * 3)

    def test_left_out_and_put_to_both(self):
        self.assertEqual(self.rules(4, [(0, 5, 6)], (9, 10), (13, 14), (1, 2)), [2, 2, 2])
        self.assertEqual(self.rules(3, [(0, 3, 6)], (1, 4), (3, 6), (5, 4)), [2, 2, 2])


class SeveralTogether(ByRules):
    def test_likelier_than_what_has_no_other_worlds(self):
        self.assertEqual(self.rules(2, [(0, 1, 2)], (1, 0), (3, 2), (3, 1), (2, 0), (3, 0)), [2, 2, 1, 1, 2])
        self.assertEqual(self.rules(3, [(0, 1, 6)], (1, 2), (1, 4), (3, 4), (5, 2), (1, 6)), [2] * 5)

    def test_two_added_up(self):
        pairs = ((5, 10), (10, 5), (9, 6), (7, 11))
        self.assertEqual(self.rules(4, [(0, 1, 2), (1, 4, 8)], *pairs), [2, 0, 0, 1])
        self.assertEqual(self.rules(4, [(1, 1, 2), (1, 4, 8)], *pairs), [1, 0, 0, 1])
        self.assertEqual(self.rules(4, [(2, 1, 2), (2, 4, 8)], *pairs), [1, 1, 1, 1])

    def test_what_only_numbers_could_tell_is_not_told(self):
        # World 0 no less likely than world 1, and both together sure: world 0 must have a share, but no rule says so.
        self.assertEqual(self.rules(2, [(1, 1, 2)], (1, 0), (3, 0)), [1, 2])
        # Twice the one is no less than twice the other, but nothing is said of one alone.
        self.assertEqual(self.rules(4, [(1, 3, 12), (2, 1, 2), (2, 4, 8)], (1, 4), (3, 12)), [0, 1])

    def test_four_told(self):
        told = [(0, 1, 2), (0, 2, 4), (0, 4, 8), (0, 8, 0)]
        for (a, b), answer in self.every(4, told).items():
            # Each world that the second has alone must stand below one of its own that the first has alone.
            first = [world for world in range(4) if a & ~b & 2 ** world]
            second = [world for world in range(4) if b & ~a & 2 ** world]
            below = len(second) <= len(first) and all(x < y for x, y in zip(first, second))
            self.assertEqual(answer, 1 if a == b else 2 if below else 0, (a, b))
        self.assertEqual(self.rules(4, told, (1, 12), (9, 6), (3, 12), (5, 10), (8, 0), (0, 8)), [0, 0, 2, 2, 2, 0])

    def test_what_is_told_no_longer(self):
        found = said(("begin", 2, 1), ("likelier", 0, 1, 2), ("rules", 1, 2), ("unlikelier", 0), ("rules", 1, 2),
                     ("back",), ("rules", 1, 2), ("back",), ("rules", 1, 2), ("again",), ("rules", 1, 2))
        self.assertEqual(found[2:], [[2], [0], [0], [1], [2], [0], [0], [1], [2]])


class WhatCanNotBe(ByRules):
    def test_a_set_told_likelier_than_itself(self):
        # Left out and put to both, every set is likelier than itself, and so than all that has no other worlds.
        for worlds in (1, 2, 3, 4):
            for chosen in (0, 1, 2 ** worlds - 1):
                for (a, b), answer in self.every(worlds, [(0, chosen, chosen)]).items():
                    self.assertEqual(answer, 2 if a | b == a else 0)

    def test_a_set_told_as_likely_as_itself(self):
        for kind in (1, 2):
            self.assertEqual(self.every(2, [(kind, 1, 1)]), self.every(2, []))

    def test_each_likelier_than_the_other(self):
        found = self.every(2, [(0, 1, 2), (0, 2, 1)])
        self.assertEqual({pair for pair, answer in found.items() if answer == 0}, {(0, 1), (0, 2), (0, 3), (1, 3), (2, 3)})
        self.assertNotIn(1, found.values())

    def test_round_in_three(self):
        found = self.every(3, [(1, 1, 2), (1, 2, 4), (0, 4, 1)])
        self.assertEqual([found[pair] for pair in ((1, 2), (2, 1), (4, 4), (0, 0), (1, 0), (1, 6), (0, 1))],
                         [2, 2, 2, 2, 2, 0, 0])

    def test_nothing_no_less_likely_than_everything(self):
        for worlds in (1, 2, 3, 4):
            for kind in (0, 1, 2):
                self.assertEqual(set(self.every(worlds, [(kind, 0, 2 ** worlds - 1)]).values()), {2})

    def test_a_world_no_less_likely_than_all(self):
        # Then all the others are no likelier than nothing; that they aren't less likely is known of any set.
        found = self.every(3, [(1, 1, 7)])
        self.assertEqual([found[pair] for pair in ((1, 0), (0, 2), (0, 4), (0, 6), (2, 4), (2, 0), (1, 6), (0, 1))],
                         [2, 1, 1, 1, 1, 1, 2, 0])


    def test_what_comes_of_what_came(self):
        # World 0 as likely as all: nothing is no less likely than worlds 1 and 2, so than world 1, so likelier
        # than world 0, and that is no less likely than all.
        self.assertEqual(self.rules(3, [(0, 2, 1), (2, 7, 1)], (0, 6), (0, 2), (0, 1), (0, 7), (1, 7)), [2] * 5)
        # Worlds 2 and 3 as likely as nothing, and yet world 2 likelier than all others.
        self.assertEqual(self.rules(4, [(2, 12, 0), (0, 4, 11)], (0, 11), (4, 15), (0, 15)), [2] * 3)


class Refused(ByRules):
    def test_what_is_no_set_of_worlds(self):
        for worlds in (1, 2, 3, 4):
            sets = 2 ** worlds
            self.assertEqual(self.rules(worlds, [], (sets, 0), (0, sets), (BIG, 0), (0, BIG), (sets - 1, sets - 1)),
                             [-22, -22, -22, -22, 1])

    def test_by_nothing_else(self):
        ground = [("begin", 2, 1), ("lot", [0, 0]), ("rather", 0, 0, 0), ("rules", 3, 1), ("likelier", 0, 1, 1)]
        self.assertEqual(said(*ground, ("chances",), ("rules", 3, 1), ("rules", 4, 1))[3:], [[1], [0], [-61], [2], [-22]])


class Sound(ByRules):
    def test_what_is_told_by_rules_holds_by_all_shares_that_agree(self):
        stands = {0: lambda a, b: a > b, 1: lambda a, b: a >= b, 2: lambda a, b: a == b}
        dice = random.Random(5)
        for turn in range(60):
            worlds = dice.choice((2, 3))
            told = [tuple(dice.randrange(bound) for bound in (3, 2 ** worlds, 2 ** worlds)) for one in range(turn % 5)]
            rows = [row for row in itertools.product(range(5), repeat=worlds) if any(row)]
            sums = [[sum(share for world, share in enumerate(row) if chosen & 2 ** world) for chosen in range(2 ** worlds)]
                    for row in rows]
            sums = [part for part in sums if all(stands[k](part[a], part[b]) for k, a, b in told)]
            for (a, b), answer in self.every(worlds, told).items():
                for part in sums:
                    self.assertGreaterEqual(part[a] - part[b], {0: -BIG, 1: 0, 2: 1}[answer])


if __name__ == "__main__":
    unittest.main()

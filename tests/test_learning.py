"""learn and learnall, with their refusals in order."""

import unittest

from helper import last, said

BIG = 4294967295
NO_CHANCES = ("likelier", 0, 0, 0)
NO_NUMBERS = ("rather", 0, 0, 0)
# In both grounds prize 0 has 2 and prize 1 has 1.
TWO_WORLDS = [("begin", 2, 2), ("likelier", 2, 1, 2), ("lot", [0, 1]), ("lot", [1, 0]), ("lot", [1, 1]),
              ("rather", 0, 0, 2)]
FOUR_WORLDS = [("begin", 4, 2), ("likelier", 0, 1, 2), ("likelier", 0, 2, 4), ("likelier", 0, 4, 8),
               ("likelier", 0, 8, 0), ("lot", [0, 1, 1, 1]), ("lot", [1, 0, 1, 1]), ("lot", [1, 1, 0, 1]),
               ("lot", [1, 1, 1, 0]), ("lot", [1, 1, 1, 1]), ("rather", 0, 0, 4)]


class Learn(unittest.TestCase):
    def test_two_worlds(self):
        self.assertEqual(last(*TWO_WORLDS, ("least",)), [3, 2, 1])
        self.assertEqual(said(*TWO_WORLDS, ("learn", 1), ("learn", 2))[6:], [[0, 1, 2], [0, 1, 2]])

    def test_what_is_known(self):
        self.assertEqual(said(*TWO_WORLDS, ("learn", 0), ("learn", 3))[6:], [[0, 0, 1], [0, 0, 1]])
        self.assertEqual(said(*FOUR_WORLDS, ("learn", 0), ("learn", 15))[11:], [[0, 0, 1], [0, 0, 1]])

    def test_one_world(self):
        ground = [("begin", 1, 2), ("lot", [0]), ("lot", [1]), ("rather", 0, 0, 1)]
        self.assertEqual(said(*ground, ("learn", 0), ("learn", 1), ("learn", 2))[4:], [[0, 0, 1], [0, 0, 1], [-22]])

    def test_four_worlds(self):
        # By shares 4, 3, 2, 1 the best at once is worth 14 of 10.
        wanted = {1: [0, 3, 10], 2: [0, 3, 10], 3: [0, 1, 5], 4: [0, 1, 5], 5: [0, 3, 10], 6: [0, 3, 10],
                  7: [0, 1, 10], 8: [0, 1, 10], 9: [0, 3, 10], 12: [0, 1, 5], 14: [0, 3, 10]}
        found = said(*FOUR_WORLDS, *[("learn", chosen) for chosen in wanted])[11:]
        self.assertEqual(dict(zip(wanted, found)), wanted)

    def test_by_the_least_numbers_alone(self):
        # Greater numbers would fit, by which it would be worth something; the least are all alike.
        ground = [("begin", 2, 2), ("likelier", 2, 1, 2), ("lot", [0, 1]), ("lot", [1, 0])]
        self.assertEqual(said(*ground, ("least",), ("learn", 1), ("learnall",))[4:], [[2, 1, 1], [0, 0, 1], [0, 0, 1]])

    def test_one_lot_leaves_nothing_to_choose(self):
        found = said(("begin", 2, 2), ("likelier", 2, 1, 2), ("lot", [0, 1]), *[("learn", chosen) for chosen in range(4)])
        self.assertEqual(found[3:], [[0, 0, 1]] * 4)

    def test_three_numbers_of_one_step_each(self):
        # Numbers 3, 2, 1 and shares 1, 1: 3 and 3 instead of 4.
        ground = [("begin", 2, 3), ("likelier", 2, 1, 2), ("lot", [0, 2]), ("lot", [2, 0]), ("lot", [1, 1]),
                  ("lot", [1, 2]), ("lot", [2, 2]), ("rather", 0, 0, 3), ("rather", 0, 3, 4)]
        self.assertEqual(said(*ground, ("least",), ("learn", 1), ("learnall",))[9:], [[6, 3, 2, 1], [0, 1, 1], [0, 1, 1]])

    def test_refusals_in_order(self):
        asked = [("learn", 0), ("learn", 3), ("learn", 4), ("learn", BIG)]
        self.assertEqual(said(("begin", 2, 2), *asked)[1:], [[-6], [-6], [-22], [-22]])
        self.assertEqual(said(("begin", 2, 2), NO_CHANCES, *asked)[2:], [[-6], [-6], [-22], [-22]])
        ground = [("begin", 2, 2), ("lot", [0, 1])]
        self.assertEqual(said(*ground, *asked)[2:], [[0, 0, 1], [0, 0, 1], [-22], [-22]])
        self.assertEqual(said(*ground, NO_NUMBERS, *asked)[3:], [[-33], [-33], [-22], [-22]])
        self.assertEqual(said(*ground, NO_CHANCES, *asked)[3:], [[-61], [-61], [-22], [-22]])
        self.assertEqual(said(*ground, NO_NUMBERS, NO_CHANCES, *asked)[4:], [[-61], [-61], [-22], [-22]])

    def test_what_is_a_set_of_worlds(self):
        for worlds in (1, 2, 3, 4):
            ground = [("begin", worlds, 1), ("lot", [0] * worlds)]
            self.assertEqual(said(*ground, ("learn", 2 ** worlds - 1), ("learn", 2 ** worlds))[2:], [[0, 0, 1], [-22]])


class LearnAll(unittest.TestCase):
    def test_one_two_and_four_worlds(self):
        self.assertEqual(last(("begin", 1, 2), ("lot", [0]), ("lot", [1]), ("rather", 0, 1, 0), ("learnall",)), [0, 0, 1])
        self.assertEqual(last(*TWO_WORLDS, ("learnall",)), [0, 1, 2])
        self.assertEqual(last(*FOUR_WORLDS, ("learnall",)), [0, 3, 5])

    def test_more_than_any_one(self):
        ground = [("begin", 3, 2), ("likelier", 2, 1, 2), ("likelier", 2, 2, 4), ("lot", [0, 1, 1]), ("lot", [1, 0, 1]),
                  ("lot", [1, 1, 0]), ("lot", [1, 1, 1]), ("rather", 0, 0, 3)]
        found = said(*ground, ("chances",), ("least",), ("learnall",), *[("learn", chosen) for chosen in range(8)])[8:]
        self.assertEqual(found[:3], [[3, 1, 1, 1], [3, 2, 1], [0, 2, 3]])
        self.assertEqual(found[3:], [[0, 0, 1]] + [[0, 1, 3]] * 6 + [[0, 0, 1]])

    def test_the_best_in_each_world_may_be_one_lot(self):
        ground = [("begin", 2, 2), ("likelier", 2, 1, 2), ("lot", [0, 0]), ("lot", [1, 1]), ("rather", 0, 0, 1)]
        self.assertEqual(last(*ground, ("learnall",)), [0, 0, 1])

    def test_refusals_in_order(self):
        self.assertEqual(said(("begin", 2, 2), ("learnall",), NO_CHANCES, ("learnall",))[1:], [[-6], [0], [-6]])
        ground = [("begin", 2, 2), ("lot", [0, 1])]
        self.assertEqual(last(*ground, NO_NUMBERS, ("learnall",)), [-33])
        self.assertEqual(last(*ground, NO_CHANCES, ("learnall",)), [-61])
        self.assertEqual(last(*ground, NO_NUMBERS, NO_CHANCES, ("learnall",)), [-61])

    def test_lots_that_went(self):
        self.assertEqual(said(("begin", 1, 1), ("lot", [0]), ("learnall",), ("unlot", 0), ("learnall",), ("learn", 1),
                              ("back",), ("learnall",))[2:], [[0, 0, 1], [0, 0], [-6], [-6], [1], [0, 0, 1]])


if __name__ == "__main__":
    unittest.main()

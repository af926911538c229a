"""may, ineach, best, maybest and prizes, with their refusals in order."""

import unittest

from helper import last, said

BIG = 4294967295
FALLING_3 = [("likelier", 0, 1, 2), ("likelier", 0, 2, 4), ("likelier", 0, 4, 0)]
FALLING_4 = [("likelier", 0, 1, 2), ("likelier", 0, 2, 4), ("likelier", 0, 4, 8), ("likelier", 0, 8, 0)]
NO_CHANCES = ("likelier", 0, 0, 0)
NO_NUMBERS = ("rather", 0, 0, 0)
TWO = [("begin", 1, 2), ("lot", [0]), ("lot", [1])]


class May(unittest.TestCase):
    def may(self, *told):
        asked = [("may", kind, a, b) for a, b in ((0, 1), (1, 0), (0, 0)) for kind in (0, 1, 2)]
        return [answer[0] for answer in said(*TWO, *told, *asked)[-9:]]

    def test_nothing_told(self):
        self.assertEqual(self.may(), [1, 1, 1, 1, 1, 1, 0, 1, 1])

    def test_behind_each_kind(self):
        self.assertEqual(self.may(("rather", 0, 0, 1)), [1, 1, 0, 0, 0, 0, 0, 1, 1])
        self.assertEqual(self.may(("rather", 1, 0, 1)), [1, 1, 1, 0, 1, 1, 0, 1, 1])
        self.assertEqual(self.may(("rather", 2, 0, 1)), [0, 1, 1, 0, 1, 1, 0, 1, 1])

    def test_behind_five_told(self):
        told = [("rather", 1, 0, 1)] * 4 + [("rather", 1, 1, 0)]
        self.assertEqual(self.may(*told), [0, 1, 1, 0, 1, 1, 0, 1, 1])

    def test_one_prize(self):
        found = said(("begin", 4, 1), ("lot", [0] * 4), *[("may", kind, 0, 0) for kind in (0, 1, 2)])
        self.assertEqual(found[2:], [[0], [1], [1]])

    def test_numbers_go_to_8_and_no_further(self):
        # Prize 2 over prize 1; can the little of prize 0 in the last world still outweigh that?
        for worlds, chances, answer in ((3, FALLING_3, 1), (4, FALLING_4, 0)):
            ground = [("begin", worlds, 3), *chances, ("lot", [1] * (worlds - 1) + [0]), ("lot", [1] * worlds),
                      ("lot", [2] * worlds), ("rather", 0, 2, 1)]
            self.assertEqual(said(*ground, ("may", 0, 0, 2), ("may", 0, 2, 0))[-2:], [[answer], [1]])

    def test_it_is_not_told_thereby(self):
        found = said(*TWO, ("may", 0, 0, 1), ("may", 0, 1, 0), ("ways",), ("state",))
        self.assertEqual(found[3:], [[1], [1], [64], [1, 2, 0, 2, 0, 2, 0]])

    def test_five_told_are_none_too_many(self):
        self.assertEqual(last(*TWO, *[("rather", 1, 0, 0)] * 5, ("may", 0, 0, 1)), [1])

    def test_refusals_in_order(self):
        found = said(*TWO, ("may", 3, 2, 0), ("may", 3, 0, 2), ("may", 0, BIG, 0), ("may", 0, 0, BIG), ("may", 3, 0, 1),
                     ("may", BIG, 0, 1), ("may", 2, 0, 1))
        self.assertEqual(found[3:], [[-2], [-2], [-2], [-2], [-22], [-22], [1]])
        asked = [("may", 0, 0, 1), ("may", 3, 0, 1), ("may", 3, 2, 1), ("may", 0, 0, 2)]
        self.assertEqual(said(*TWO, NO_NUMBERS, *asked)[4:], [[-33], [-22], [-2], [-2]])
        self.assertEqual(said(*TWO, NO_CHANCES, *asked)[4:], [[-61], [-22], [-2], [-2]])
        self.assertEqual(said(*TWO, NO_NUMBERS, NO_CHANCES, *asked)[5:], [[-61], [-22], [-2], [-2]])
        self.assertEqual(last(("begin", 1, 1), ("may", 3, 0, 0)), [-2])


class InEach(unittest.TestCase):
    def test_behind_each_kind(self):
        for told, ahead, other in (([], 0, 0), ([("rather", 0, 0, 1)], 1, 0), ([("rather", 1, 0, 1)], 1, 0),
                                   ([("rather", 2, 0, 1)], 1, 1), ([("rather", 1, 1, 0)], 0, 1)):
            with self.subTest(told):
                found = said(*TWO, *told, ("ineach", 0, 1), ("ineach", 1, 0), ("ineach", 0, 0), ("ineach", 1, 1))
                self.assertEqual(found[-4:], [[ahead], [other], [1], [1]])

    def test_each_of_four_worlds(self):
        ground = [("begin", 4, 2), ("lot", [0] * 4), ("lot", [1] * 4), ("rather", 0, 0, 1)]
        for world in range(4):
            row = [0] * 4
            row[world] = 1
            found = said(*ground, ("lot", row), ("ineach", 2, 1), ("ineach", 1, 2), ("ineach", 0, 2), ("ineach", 2, 0))
            self.assertEqual(found[5:], [[1], [0], [1], [0]])

    def test_worth_more_but_not_in_each_world(self):
        ground = [("begin", 2, 2), ("likelier", 0, 1, 2), ("likelier", 0, 2, 0), ("lot", [0, 1]), ("lot", [1, 0]),
                  ("rather", 0, 0, 1)]
        self.assertEqual(said(*ground, ("more", 0, 1), ("ineach", 0, 1), ("ineach", 1, 0))[6:], [[2], [0], [0]])

    def test_a_world_without_a_share_is_a_world(self):
        ground = [("begin", 2, 2), ("lot", [0, 1]), ("lot", [1, 1])]
        found = said(*ground, ("chances",), ("more", 0, 1), ("ineach", 0, 1), ("ineach", 1, 0))
        self.assertEqual(found[3:], [[1, 0, 1], [1], [0], [0]])

    def test_by_all_numbers_that_fit(self):
        # 0 over 1 comes of the two that are told, not of either alone.
        ground = [("begin", 1, 3), ("lot", [0]), ("lot", [1]), ("lot", [2]), ("rather", 1, 0, 2)]
        found = said(*ground, ("ineach", 0, 1), ("rather", 1, 2, 1), ("ineach", 0, 1), ("ineach", 1, 0))
        self.assertEqual(found[5:], [[0], [1], [1], [0]])

    def test_refusals_in_order(self):
        asked = [("ineach", 0, 1), ("ineach", 2, 0), ("ineach", 0, 2), ("ineach", BIG, BIG)]
        self.assertEqual(said(*TWO, *asked)[3:], [[0], [-2], [-2], [-2]])
        self.assertEqual(said(*TWO, NO_NUMBERS, *asked)[4:], [[-33], [-2], [-2], [-2]])
        self.assertEqual(said(*TWO, NO_NUMBERS, NO_CHANCES, *asked)[5:], [[-61], [-2], [-2], [-2]])
        self.assertEqual(last(("begin", 1, 1), ("ineach", 0, 0)), [-2])


class Best(unittest.TestCase):
    def both(self, *calls):
        return said(*calls, ("best",), ("maybest",))[-2:]

    def test_no_lots_and_one(self):
        self.assertEqual(self.both(("begin", 1, 1)), [[0], [0]])
        self.assertEqual(self.both(("begin", 4, 4), ("lot", [3, 2, 1, 0])), [[1, 0], [1, 0]])

    def test_five_alike(self):
        for row in ([0], [1]):
            self.assertEqual(self.both(("begin", 1, 2), *[("lot", row)] * 5), [[5, 0, 1, 2, 3, 4]] * 2)

    def test_behind_each_kind(self):
        self.assertEqual(self.both(*TWO), [[0], [2, 0, 1]])
        self.assertEqual(self.both(*TWO, ("rather", 0, 0, 1)), [[1, 0], [1, 0]])
        self.assertEqual(self.both(*TWO, ("rather", 0, 1, 0)), [[1, 1], [1, 1]])
        self.assertEqual(self.both(*TWO, ("rather", 1, 1, 0)), [[1, 1], [2, 0, 1]])
        self.assertEqual(self.both(*TWO, ("rather", 2, 1, 0)), [[2, 0, 1], [2, 0, 1]])

    def test_some_best_by_some_and_none_by_all(self):
        lots = [("lot", [prize]) for prize in (1, 0, 3, 2, 1)]
        told = [("rather", 0, 1, 0), ("rather", 0, 2, 3)]
        self.assertEqual(self.both(("begin", 1, 4), *lots, *told), [[0], [2, 1, 2]])
        self.assertEqual(self.both(("begin", 1, 4), *lots, *told, ("rather", 1, 2, 1)), [[1, 2], [2, 1, 2]])

    def test_the_middle_one_is_best_only_where_all_are_alike(self):
        ground = [("begin", 2, 2), ("likelier", 2, 1, 2), ("lot", [0, 0]), ("lot", [0, 1]), ("lot", [1, 1])]
        self.assertEqual(self.both(*ground), [[0], [3, 0, 1, 2]])
        self.assertEqual(self.both(*ground, ("rather", 0, 1, 2)), [[1, 0], [1, 0]])

    def test_by_one_of_the_numbers_alone(self):
        # By shares 3, 2, 1 the little of prize 0 outweighs prize 2 over prize 1 only with 8, 1 and 2.
        ground = [("begin", 3, 3), *FALLING_3, ("lot", [1, 1, 0]), ("lot", [1] * 3), ("lot", [2] * 3), ("rather", 0, 2, 1)]
        self.assertEqual(self.both(*ground, ("rather", 0, 0, 2)), [[1, 0], [1, 0]])

    def test_five_told(self):
        lots = [("lot", [prize]) for prize in (0, 1, 2, 3, 0)]
        told = [("rather", 1, 3, 2), ("rather", 1, 2, 1), ("rather", 1, 1, 0), ("rather", 2, 0, 4), ("rather", 1, 4, 1)]
        self.assertEqual(self.both(("begin", 1, 4), *lots, *told), [[1, 3], [5, 0, 1, 2, 3, 4]])

    def test_refusals_in_order(self):
        self.assertEqual(self.both(*TWO, NO_NUMBERS), [[-33], [-33]])
        self.assertEqual(self.both(*TWO, NO_CHANCES), [[-61], [-61]])
        self.assertEqual(self.both(*TWO, NO_NUMBERS, NO_CHANCES), [[-61], [-61]])
        self.assertEqual(self.both(("begin", 1, 1), NO_CHANCES), [[-61], [-61]])


class Prizes(unittest.TestCase):
    def test_one_prize(self):
        self.assertEqual(said(("begin", 4, 1), ("prizes", 0, 0), ("prizes", 0, 1), ("prizes", 1, 0))[1:],
                         [[1], [-2], [-2]])

    def test_behind_each_kind(self):
        for told, ahead, other in (([], 0, 0), ([("rather", 0, 0, 1)], 2, 0), ([("rather", 1, 0, 1)], 1, 0),
                                   ([("rather", 2, 0, 1)], 1, 1), ([("rather", 0, 1, 0)], 0, 2)):
            with self.subTest(told):
                found = said(*TWO, *told, ("prizes", 0, 1), ("prizes", 1, 0), ("prizes", 1, 1))
                self.assertEqual(found[-3:], [[ahead], [other], [1]])

    def test_four_prizes(self):
        lots = [("lot", [prize]) for prize in range(4)]
        told = [("rather", 0, 0, 1), ("rather", 1, 1, 2), ("rather", 2, 2, 3)]
        pairs = [((0, 3), 2), ((1, 3), 1), ((2, 3), 1), ((3, 2), 1), ((3, 1), 0), ((3, 0), 0), ((0, 1), 2)]
        found = said(("begin", 1, 4), *lots, *told, *[("prizes",) + pair for pair, answer in pairs])
        self.assertEqual(found[8:], [[answer] for pair, answer in pairs])

    def test_no_lots_are_needed(self):
        self.assertEqual(said(("begin", 1, 4), ("prizes", 3, 0), ("prizes", 3, 3))[1:], [[0], [1]])

    def test_what_comes_of_lots_alike_elsewhere(self):
        ground = [("begin", 2, 3), ("likelier", 2, 1, 2), ("lot", [0, 2]), ("lot", [2, 1]), ("rather", 0, 0, 1)]
        self.assertEqual(said(*ground, ("prizes", 0, 1), ("prizes", 0, 2), ("prizes", 2, 1))[5:], [[2], [0], [0]])

    def test_refusals_in_order(self):
        asked = [("prizes", 0, 1), ("prizes", 2, 0), ("prizes", 0, 2), ("prizes", BIG, BIG)]
        self.assertEqual(said(*TWO, *asked)[3:], [[0], [-2], [-2], [-2]])
        self.assertEqual(said(*TWO, NO_NUMBERS, *asked)[4:], [[-33], [-2], [-2], [-2]])
        self.assertEqual(said(*TWO, NO_NUMBERS, NO_CHANCES, *asked)[5:], [[-61], [-2], [-2], [-2]])


if __name__ == "__main__":
    unittest.main()

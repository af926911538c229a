"""chances, ways, least, fits, worth and more, with their refusals in order."""

import unittest

from helper import last, said

BIG = 4294967295
FALLING = {
    1: [("likelier", 0, 1, 0)],
    2: [("likelier", 0, 1, 2), ("likelier", 0, 2, 0)],
    3: [("likelier", 0, 1, 2), ("likelier", 0, 2, 4), ("likelier", 0, 4, 0)],
    4: [("likelier", 0, 1, 2), ("likelier", 0, 2, 4), ("likelier", 0, 4, 8), ("likelier", 0, 8, 0)],
}
NO_CHANCES = ("likelier", 0, 0, 0)
NO_NUMBERS = ("rather", 0, 0, 0)


class Chances(unittest.TestCase):
    def chances(self, worlds, *told):
        return last(("begin", worlds, 1), *[("likelier",) + one for one in told], ("chances",))

    def test_nothing_told(self):
        self.assertEqual(self.chances(1), [1, 1])
        self.assertEqual(self.chances(2), [1, 0, 1])
        self.assertEqual(self.chances(3), [1, 0, 0, 1])
        self.assertEqual(self.chances(4), [1, 0, 0, 0, 1])

    def test_each_kind(self):
        self.assertEqual(self.chances(2, (0, 1, 2)), [1, 1, 0])
        self.assertEqual(self.chances(2, (0, 2, 1)), [1, 0, 1])
        self.assertEqual(self.chances(2, (1, 1, 2)), [1, 1, 0])
        self.assertEqual(self.chances(2, (1, 1, 2), (1, 2, 1)), [2, 1, 1])
        self.assertEqual(self.chances(2, (2, 1, 2)), [2, 1, 1])
        self.assertEqual(self.chances(2, (1, 0, 2)), [1, 1, 0])

    def test_a_set_is_by_its_worlds(self):
        self.assertEqual(self.chances(3, (2, 1, 6), (0, 2, 0)), [2, 1, 1, 0])
        self.assertEqual(self.chances(3, (2, 5, 2), (2, 1, 4)), [4, 1, 2, 1])
        self.assertEqual(self.chances(4, (0, 9, 6), (0, 6, 0), (2, 1, 8)), [3, 1, 0, 1, 1])

    def test_sets_that_share_worlds(self):
        self.assertEqual(self.chances(3, (0, 3, 5)), [1, 0, 1, 0])
        self.assertEqual(self.chances(2, (2, 3, 1)), [1, 1, 0])

    def test_the_least_together_and_of_like_ones_the_first(self):
        self.assertEqual(self.chances(3, (0, 3, 4)), [1, 0, 1, 0])
        self.assertEqual(self.chances(4, (2, 3, 12)), [2, 0, 1, 0, 1])
        self.assertEqual(self.chances(2, (0, 1, 2), (0, 2, 0)), [3, 2, 1])

    def test_together_10_and_no_more(self):
        self.assertEqual(self.chances(4, (0, 1, 2), (0, 2, 4), (0, 4, 8), (0, 8, 0)), [10, 4, 3, 2, 1])
        self.assertEqual(self.chances(4, (1, 1, 10), (0, 2, 4), (0, 4, 8), (0, 8, 0)), [10, 4, 3, 2, 1])
        self.assertEqual(self.chances(4, (0, 1, 10), (0, 2, 4), (0, 4, 8), (0, 8, 0)), [-61])

    def test_none_agree(self):
        self.assertEqual(self.chances(1, (0, 1, 1)), [-61])
        self.assertEqual(self.chances(1, (0, 0, 1)), [-61])
        self.assertEqual(self.chances(1, (1, 0, 1)), [-61])
        self.assertEqual(self.chances(2, (2, 0, 3)), [-61])
        self.assertEqual(self.chances(2, (0, 1, 2), (0, 2, 1)), [-61])

    def test_not_refused_where_no_numbers_fit(self):
        self.assertEqual(last(("begin", 2, 1), ("lot", [0, 0]), NO_NUMBERS, ("chances",)), [1, 0, 1])


class Ways(unittest.TestCase):
    def test_nothing_told(self):
        for prizes, ways in ((1, 8), (2, 64), (3, 512), (4, 4096)):
            self.assertEqual(last(("begin", 1, prizes), ("ways",)), [ways])

    def test_each_kind(self):
        ground = [("begin", 1, 2), ("lot", [0]), ("lot", [1])]
        for kind, ways in ((0, 28), (1, 36), (2, 8)):
            self.assertEqual(last(*ground, ("rather", kind, 0, 1), ("ways",)), [ways])

    def test_all_that_is_told(self):
        lots = [("lot", [prize]) for prize in range(4)]
        told = [("rather", 0, prize, prize + 1) for prize in range(3)]
        self.assertEqual(last(("begin", 1, 4), *lots, *told, ("ways",)), [70])
        self.assertEqual(last(("begin", 1, 4), *lots, *told, ("rather", 1, 0, 3), ("rather", 2, 1, 1), ("ways",)), [70])

    def test_shares_weigh(self):
        # By shares 2 and 1: twice the first prize and once the second against thrice the third.
        ground = [("begin", 2, 3), *FALLING[2], ("lot", [0, 1]), ("lot", [2, 2]), ("rather", 2, 0, 1)]
        counted = len([1 for x in range(1, 9) for y in range(1, 9) for z in range(1, 9) if 2 * x + y == 3 * z])
        self.assertEqual(last(*ground, ("ways",)), [counted])

    def test_only_1_and_8(self):
        # By shares 3, 2, 1: prize 2 over prize 1, and yet 5 of prize 1 with 1 of prize 0 over 6 of prize 2.
        ground = [("begin", 3, 3), *FALLING[3], ("lot", [1, 1, 0]), ("lot", [1, 1, 1]), ("lot", [2, 2, 2]),
                  ("rather", 0, 2, 1), ("rather", 0, 0, 2)]
        self.assertEqual(said(*ground, ("ways",), ("least",), ("worth", 0))[-3:],
                         [[1], [11, 8, 1, 2], [0, 13, 6, 13, 6]])

    def test_beyond_8_is_none(self):
        ground = [("begin", 4, 3), *FALLING[4], ("lot", [1, 1, 1, 0]), ("lot", [1] * 4), ("lot", [2] * 4),
                  ("rather", 0, 2, 1), ("rather", 0, 0, 2)]
        self.assertEqual(said(*ground, ("ways",), ("least",))[-2:], [[0], [-33]])

    def test_none_is_no_refusal_but_no_chances_are(self):
        ground = [("begin", 1, 1), ("lot", [0]), NO_NUMBERS]
        self.assertEqual(last(*ground, ("ways",)), [0])
        self.assertEqual(last(*ground, NO_CHANCES, ("ways",)), [-61])


class Least(unittest.TestCase):
    def test_nothing_told(self):
        for prizes in (1, 2, 3, 4):
            self.assertEqual(last(("begin", 1, prizes), ("least",)), [prizes] + [1] * prizes)

    def test_each_kind(self):
        ground = [("begin", 1, 2), ("lot", [0]), ("lot", [1])]
        for kind, least in ((0, [3, 2, 1]), (1, [2, 1, 1]), (2, [2, 1, 1])):
            self.assertEqual(last(*ground, ("rather", kind, 0, 1), ("least",)), least)

    def test_of_like_sums_the_first(self):
        ground = [("begin", 2, 3), ("likelier", 2, 1, 2), ("lot", [0, 1]), ("lot", [2, 2]), ("rather", 0, 0, 1)]
        self.assertEqual(last(*ground, ("least",)), [4, 1, 2, 1])

    def test_the_least_sum_ahead_of_the_first(self):
        # Shares 2 and 1: [1, 4, 1] would be earlier than [2, 1, 1], but has the greater sum.
        ground = [("begin", 2, 3), *FALLING[2], ("lot", [0, 1]), ("lot", [2, 2]), ("lot", [0, 0]), ("lot", [1, 1]),
                  ("rather", 0, 0, 1), ("rather", 0, 2, 1)]
        self.assertEqual(last(*ground, ("least",)), [4, 2, 1, 1])

    def test_refusals_in_order(self):
        ground = [("begin", 1, 1), ("lot", [0]), NO_NUMBERS]
        self.assertEqual(said(*ground, ("least",), NO_CHANCES, ("least",))[3:], [[-33], [0], [-61]])


class Fits(unittest.TestCase):
    def test_by_all_that_is_told(self):
        ground = [("begin", 1, 3), ("lot", [0]), ("lot", [1]), ("lot", [2]), ("rather", 0, 0, 1), ("rather", 1, 1, 2)]
        rows = [([3, 2, 1], 1), ([3, 2, 2], 1), ([2, 2, 1], 0), ([3, 2, 3], 0), ([8, 1, 1], 1), ([1, 2, 3], 0)]
        found = said(*ground, *[("fits", row) for row, fit in rows])
        self.assertEqual(found[6:], [[fit] for row, fit in rows])

    def test_as_gladly(self):
        ground = [("begin", 2, 2), *FALLING[2], ("lot", [0, 1]), ("lot", [1, 0]), ("rather", 2, 0, 1)]
        self.assertEqual(said(*ground, ("fits", [5, 5]), ("fits", [5, 4]), ("fits", [4, 5]))[-3:], [[1], [0], [0]])

    def test_nothing_told(self):
        self.assertEqual(said(("begin", 1, 4), ("fits", [1, 8, 1, 8]), ("fits", [8] * 4))[1:], [[1], [1]])

    def test_what_is_no_numbers(self):
        wrong = [[], [1], [1, 1, 1], [0, 1], [1, 0], [9, 1], [1, 9], [BIG, 1], [1, BIG], [1] * 255]
        found = said(("begin", 1, 2), *[("fits", row) for row in wrong], ("fits", [1, 8]), ("fits", [8, 1]))
        self.assertEqual(found[1:], [[-22]] * 10 + [[1], [1]])

    def test_refusals_in_order(self):
        ground = [("begin", 1, 1), ("lot", [0]), NO_NUMBERS]
        found = said(*ground, ("fits", [1]), ("fits", [9]), NO_CHANCES, ("fits", [1]), ("fits", [9]))
        self.assertEqual(found[3:], [[0], [-22], [0], [-61], [-22]])


class Worth(unittest.TestCase):
    def test_nothing_told(self):
        self.assertEqual(last(("begin", 1, 1), ("lot", [0]), ("worth", 0)), [0, 1, 1, 8, 1])
        self.assertEqual(last(("begin", 4, 4), *FALLING[4], ("lot", [0, 1, 2, 3]), ("worth", 0)), [0, 1, 1, 8, 1])

    def test_least_and_greatest_by_what_fits(self):
        ground = [("begin", 2, 2), *FALLING[2], ("lot", [0, 1]), ("lot", [1, 1]), ("rather", 0, 0, 1)]
        self.assertEqual(said(*ground, ("worth", 0), ("worth", 1))[-2:], [[0, 5, 3, 23, 3], [0, 1, 1, 7, 1]])

    def test_no_common_divisor(self):
        ground = [("begin", 4, 2), *FALLING[4], ("lot", [0, 1, 1, 0]), ("lot", [0] * 4), ("lot", [1] * 4),
                  ("rather", 0, 1, 2), ("lot", [0, 0, 0, 1]), ("lot", [0, 1, 0, 1])]
        self.assertEqual(said(*ground, ("worth", 0), ("worth", 3), ("worth", 4))[-3:],
                         [[0, 3, 2, 15, 2], [0, 19, 10, 79, 10], [0, 8, 5, 38, 5]])

    def test_refusals_in_order(self):
        ground = [("begin", 1, 1), ("lot", [0]), NO_NUMBERS]
        found = said(("begin", 1, 1), ("worth", 0), ("lot", [0]), ("worth", 1), ("worth", BIG))
        self.assertEqual([found[1], found[3], found[4]], [[-2], [-2], [-2]])
        found = said(*ground, ("worth", 0), ("worth", 1), NO_CHANCES, ("worth", 0), ("worth", 1))
        self.assertEqual(found[3:], [[-33], [-2], [0], [-61], [-2]])


class More(unittest.TestCase):
    GROUND = [("begin", 1, 2), ("lot", [0]), ("lot", [1])]

    def test_by_each_kind(self):
        for told, ahead, other in (([], 0, 0), ([("rather", 0, 0, 1)], 2, 0), ([("rather", 1, 0, 1)], 1, 0),
                                   ([("rather", 2, 0, 1)], 1, 1), ([("rather", 0, 1, 0)], 0, 2)):
            with self.subTest(told):
                found = said(*self.GROUND, *told, ("more", 0, 1), ("more", 1, 0), ("more", 0, 0))
                self.assertEqual(found[-3:], [[ahead], [other], [1]])

    def test_what_follows_from_what_was_told(self):
        ground = [("begin", 2, 3), ("likelier", 2, 1, 2), ("lot", [0, 0]), ("lot", [1, 1]), ("lot", [2, 2]),
                  ("lot", [0, 2]), ("lot", [1, 0]), ("rather", 0, 0, 1), ("rather", 1, 1, 2)]
        pairs = [((0, 2), 2), ((2, 0), 0), ((3, 2), 2), ((4, 3), 1), ((3, 1), 0), ((1, 3), 0), ((4, 1), 2)]
        found = said(*ground, *[("more",) + pair for pair, answer in pairs])
        self.assertEqual(found[9:], [[answer] for pair, answer in pairs])

    def test_refusals_in_order(self):
        found = said(*self.GROUND, ("more", 2, 0), ("more", 0, 2), ("more", BIG, BIG), NO_NUMBERS, ("more", 0, 1),
                     ("more", 0, 2), NO_CHANCES, ("more", 0, 1), ("more", 2, 0))
        self.assertEqual(found[3:], [[-2], [-2], [-2], [0], [-33], [-2], [0], [-61], [-2]])


if __name__ == "__main__":
    unittest.main()

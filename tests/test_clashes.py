"""clashes, spare, wrong and side, with their refusals in order."""

import unittest

from helper import last, said

BIG = 4294967295
NO_CHANCES = ("likelier", 0, 0, 0)
NO_NUMBERS = ("rather", 0, 0, 0)
TWO = [("begin", 1, 2), ("lot", [0]), ("lot", [1])]
THREE = [("begin", 1, 3), ("lot", [0]), ("lot", [1]), ("lot", [2])]
FALLING = [("likelier", 0, 1, 2), ("likelier", 0, 2, 4), ("likelier", 0, 4, 8), ("likelier", 0, 8, 0)]


def rather(*told):
    return [("rather",) + one for one in told]


class Clashes(unittest.TestCase):
    def clashes(self, ground, *told):
        return last(*ground, *rather(*told), ("clashes",))

    def test_one_that_can_not_be(self):
        self.assertEqual(self.clashes(TWO, (0, 0, 0)), [1, 1])
        self.assertEqual(self.clashes(TWO, (1, 0, 0), (0, 1, 1)), [1, 2])
        self.assertEqual(self.clashes(TWO, (0, 0, 0), (0, 0, 0)), [2, 1, 2])

    def test_two_that_can_not_go_together(self):
        self.assertEqual(self.clashes(TWO, (0, 0, 1), (0, 1, 0)), [1, 3])
        self.assertEqual(self.clashes(TWO, (0, 0, 1), (1, 1, 0)), [1, 3])
        self.assertEqual(self.clashes(TWO, (0, 0, 1), (2, 1, 0)), [1, 3])

    def test_three_that_can_not_go_together(self):
        self.assertEqual(self.clashes(THREE, (0, 0, 1), (0, 1, 2), (0, 2, 0)), [1, 7])
        self.assertEqual(self.clashes(THREE, (0, 0, 1), (1, 1, 1), (1, 1, 2), (1, 2, 0)), [1, 13])

    def test_none_in_it_can_be_left_out(self):
        # The last alone can't be, so no clash has it beside another.
        self.assertEqual(self.clashes(TWO, (0, 0, 1), (0, 1, 0), (0, 0, 0)), [2, 3, 4])

    def test_five_told_rising(self):
        told = ((0, 0, 1), (0, 1, 0), (2, 0, 1), (1, 1, 0), (1, 0, 1))
        self.assertEqual(self.clashes(TWO, *told), [5, 3, 5, 6, 9, 18])

    def test_four_that_can_not_go_together(self):
        ground = [("begin", 1, 4), *[("lot", [prize]) for prize in range(4)], ("lot", [0])]
        self.assertEqual(self.clashes(ground, (1, 0, 1), (1, 1, 2), (1, 2, 3), (0, 3, 4)), [1, 15])
        # The last one says the same of lots that are alike, so it can't be by itself.
        self.assertEqual(self.clashes(ground, (1, 0, 1), (1, 1, 2), (1, 2, 3), (1, 3, 4), (0, 0, 4)), [1, 16])

    def test_by_the_chances_gone_by(self):
        # By shares 2 and 1 lot 0 is over lot 1 just where prize 0 is over prize 1; by like shares never.
        ground = [("begin", 2, 2), ("lot", [0, 1]), ("lot", [1, 0]), ("lot", [1, 1]), ("rather", 0, 2, 0),
                  ("rather", 0, 0, 1)]
        falling = [("likelier", 0, 1, 2), ("likelier", 0, 2, 0)]
        self.assertEqual(last(*ground, *falling, ("clashes",)), [1, 3])
        self.assertEqual(last(*ground, ("likelier", 2, 1, 2), ("clashes",)), [1, 2])

    def test_numbers_go_to_8_and_no_further(self):
        ground = [("begin", 4, 3), *FALLING, ("lot", [1, 1, 1, 0]), ("lot", [1] * 4), ("lot", [2] * 4)]
        self.assertEqual(self.clashes(ground, (0, 2, 1), (0, 0, 2)), [1, 3])

    def test_refused_where_some_numbers_fit(self):
        self.assertEqual(last(("begin", 1, 1), ("clashes",)), [-33])
        self.assertEqual(last(("begin", 4, 4), ("clashes",)), [-33])
        self.assertEqual(self.clashes(TWO, (0, 0, 1), (1, 0, 0), (1, 0, 1)), [-33])
        self.assertEqual(said(*TWO, NO_NUMBERS, ("clashes",), ("unrather", 0), ("clashes",))[4:], [[1, 1], [0], [-33]])

    def test_no_chances_come_first(self):
        self.assertEqual(last(*TWO, NO_CHANCES, ("clashes",)), [-61])
        self.assertEqual(last(*TWO, NO_CHANCES, NO_NUMBERS, ("clashes",)), [-61])


class Spare(unittest.TestCase):
    def spare(self, ground, *told):
        return last(*ground, *rather(*told), ("spare",))

    def test_none_told(self):
        self.assertEqual(self.spare([("begin", 1, 1)]), [0])
        self.assertEqual(self.spare(TWO), [0])

    def test_what_is_needed(self):
        self.assertEqual(self.spare(TWO, (0, 0, 1)), [0])
        self.assertEqual(self.spare(THREE, (0, 0, 1), (0, 1, 2)), [0])
        self.assertEqual(self.spare(TWO, (1, 0, 1), (1, 1, 0)), [0])

    def test_what_comes_of_others(self):
        self.assertEqual(self.spare(THREE, (0, 0, 1), (0, 1, 2), (0, 0, 2)), [1, 2])
        self.assertEqual(self.spare(TWO, (1, 0, 1), (0, 0, 1)), [1, 0])
        self.assertEqual(self.spare(TWO, (0, 0, 1), (1, 0, 1)), [1, 1])

    def test_each_alone(self):
        self.assertEqual(self.spare(TWO, (0, 0, 1), (0, 0, 1)), [2, 0, 1])
        self.assertEqual(self.spare(TWO, (1, 0, 1), (1, 1, 0), (2, 0, 1)), [3, 0, 1, 2])

    def test_what_says_nothing(self):
        self.assertEqual(self.spare(TWO, (1, 0, 0), (0, 0, 1), (2, 1, 1)), [2, 0, 2])

    def test_five_told(self):
        self.assertEqual(self.spare(TWO, *[(1, 0, 1)] * 5), [5, 0, 1, 2, 3, 4])
        self.assertEqual(self.spare(THREE, (0, 0, 1), (1, 0, 1), (0, 1, 2), (1, 0, 2), (1, 1, 2)), [3, 1, 3, 4])

    def test_spare_for_want_of_greater_numbers(self):
        # By shares 4, 3, 2, 1: nine of prize 1 with one of prize 0 are over ten of prize 2 only if prize 1 is
        # not below prize 2: numbers that go further than 8 would fit, too.
        ground = [("begin", 4, 3), *FALLING, ("lot", [1, 1, 1, 0]), ("lot", [1] * 4), ("lot", [2] * 4)]
        self.assertEqual(self.spare(ground, (0, 0, 2), (1, 1, 2)), [1, 1])

    def test_refusals_in_order(self):
        self.assertEqual(last(*TWO, NO_NUMBERS, ("spare",)), [-33])
        self.assertEqual(last(*TWO, NO_CHANCES, ("spare",)), [-61])
        self.assertEqual(last(*TWO, NO_NUMBERS, NO_CHANCES, ("spare",)), [-61])


class Wrong(unittest.TestCase):
    def test_each_kind(self):
        ground = THREE + rather((0, 0, 1), (1, 1, 2), (2, 0, 2))
        rows = [([3, 2, 1], [1, 2]), ([1, 1, 1], [1, 0]), ([1, 2, 3], [3, 0, 1, 2]), ([2, 1, 2], [1, 1]),
                ([2, 2, 1], [2, 0, 2]), ([8, 7, 8], [1, 1]), ([3, 1, 2], [2, 1, 2])]
        found = said(*ground, *[("wrong", row) for row, answer in rows])
        self.assertEqual(found[7:], [answer for row, answer in rows])

    def test_none_and_five_told(self):
        self.assertEqual(last(("begin", 1, 1), ("wrong", [8])), [0])
        self.assertEqual(last(("begin", 4, 4), ("wrong", [1, 8, 1, 8])), [0])
        ground = TWO + rather(*[(0, 0, 1)] * 5)
        self.assertEqual(said(*ground, ("wrong", [1, 1]), ("wrong", [2, 1]))[8:], [[5, 0, 1, 2, 3, 4], [0]])

    def test_by_the_chances_gone_by(self):
        ground = [("begin", 2, 3), ("likelier", 0, 1, 2), ("likelier", 0, 2, 0), ("lot", [0, 1]), ("lot", [2, 2]),
                  ("rather", 2, 0, 1)]
        found = said(*ground, ("wrong", [1, 4, 2]), ("wrong", [3, 1, 2]), ("wrong", [2, 5, 3]))
        self.assertEqual(found[6:], [[0], [1, 0], [0]])

    def test_numbers_that_can_not_be_are_no_refusal(self):
        ground = TWO + rather((0, 0, 1), (0, 1, 0))
        self.assertEqual(said(*ground, ("wrong", [2, 1]), ("wrong", [1, 2]), ("wrong", [1, 1]))[5:],
                         [[1, 1], [1, 0], [2, 0, 1]])

    def test_what_is_no_numbers(self):
        wrong = [[], [1], [1, 1, 1], [0, 1], [1, 0], [9, 1], [1, 9], [BIG, 1], [1, BIG], [1] * 255]
        found = said(("begin", 1, 2), *[("wrong", row) for row in wrong], ("wrong", [1, 8]), ("wrong", [8, 1]))
        self.assertEqual(found[1:], [[-22]] * 10 + [[0], [0]])

    def test_refusals_in_order(self):
        ground = TWO + [NO_NUMBERS, NO_CHANCES]
        self.assertEqual(said(*ground, ("wrong", [1, 9]), ("wrong", [1]), ("wrong", [1, 8]))[5:], [[-22], [-22], [-61]])


class Side(unittest.TestCase):
    def test_by_the_chances_gone_by(self):
        ground = [("begin", 4, 3), ("lot", [0, 1, 0, 2]), ("lot", [1] * 4)]
        self.assertEqual(said(*ground, ("side", 0), ("side", 1))[3:], [[3, 0, 0, 1], [3, 0, 1, 0]])
        self.assertEqual(said(*ground, *FALLING, ("side", 0), ("side", 1))[7:], [[3, 6, 3, 1], [3, 0, 10, 0]])

    def test_one_and_four_prizes(self):
        self.assertEqual(last(("begin", 1, 1), ("lot", [0]), ("side", 0)), [1, 1])
        self.assertEqual(last(("begin", 1, 4), ("lot", [2]), ("side", 0)), [4, 0, 0, 1, 0])
        self.assertEqual(last(("begin", 4, 4), *FALLING, ("lot", [3, 2, 1, 0]), ("side", 0)), [4, 1, 2, 3, 4])
        self.assertEqual(last(("begin", 4, 1), *FALLING, ("lot", [0] * 4), ("side", 0)), [1, 10])

    def test_of_five_lots_the_one_asked_for(self):
        lots = [("lot", [prize]) for prize in (0, 1, 2, 3, 1)]
        found = said(("begin", 1, 4), *lots, ("side", 4), ("side", 3), ("prize", 3, 0, 0), ("side", 3))
        self.assertEqual(found[6:], [[4, 0, 1, 0, 0], [4, 0, 0, 0, 1], [3], [4, 1, 0, 0, 0]])

    def test_refusals_in_order(self):
        self.assertEqual(said(("begin", 1, 1), ("side", 0), NO_CHANCES, ("side", 0))[1:], [[-2], [0], [-2]])
        found = said(*TWO, NO_NUMBERS, ("side", 0), ("side", 2), ("side", BIG), NO_CHANCES, ("side", 0), ("side", 2))
        self.assertEqual(found[4:], [[2, 1, 0], [-2], [-2], [0], [-61], [-2]])


if __name__ == "__main__":
    unittest.main()

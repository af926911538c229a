"""likelier, unlikelier, lot, unlot, prize, rather and unrather, with their refusals in order."""

import unittest

from helper import last, said

BIG = 4294967295


class Likelier(unittest.TestCase):
    def test_its_number(self):
        told = [("likelier", kind, 1, 2) for kind in (0, 1, 2, 0)]
        self.assertEqual(said(("begin", 2, 1), *told)[1:], [[0], [1], [2], [3]])

    def test_kinds_and_sets_that_are_none(self):
        for worlds in (1, 2, 3, 4):
            sets = 2 ** worlds
            wrong = [("likelier", 3, 0, 0), ("likelier", BIG, 0, 0), ("likelier", 0, sets, 0),
                     ("likelier", 0, 0, sets), ("likelier", 0, BIG, 0), ("likelier", 0, 0, BIG)]
            found = said(("begin", worlds, 1), *wrong, ("likelier", 2, sets - 1, 0), ("likelier", 1, 0, sets - 1))
            self.assertEqual(found[1:], [[-22]] * 6 + [[0], [1]])

    def test_too_many(self):
        told = [("likelier", 1, 3, 1)] * 4
        found = said(("begin", 2, 1), *told, ("likelier", 0, 2, 1), ("chances",), ("unlikelier", 0), ("likelier", 0, 2, 1))
        self.assertEqual(found[5:], [[-28], [1, 0, 1], [3], [3]])

    def test_not_right_is_ahead_of_too_many(self):
        told = [("likelier", 1, 3, 1)] * 4
        wrong = [("likelier", 3, 0, 0), ("likelier", 0, 4, 0), ("likelier", 0, 0, 4)]
        self.assertEqual(said(("begin", 2, 1), *told, *wrong)[5:], [[-22]] * 3)

    def test_chances_that_can_not_be_are_no_refusal(self):
        found = said(("begin", 1, 1), ("likelier", 0, 0, 1), ("likelier", 0, 1, 0), ("chances",))
        self.assertEqual(found[1:], [[0], [1], [-61]])


class Unlikelier(unittest.TestCase):
    def test_those_behind_are_one_less(self):
        ground = [("begin", 3, 1), ("likelier", 0, 1, 2), ("likelier", 0, 2, 4), ("likelier", 0, 4, 0)]
        self.assertEqual(last(*ground, ("chances",)), [6, 3, 2, 1])
        self.assertEqual(said(*ground, ("unlikelier", 0), ("chances",))[4:], [[2], [3, 0, 2, 1]])
        self.assertEqual(said(*ground, ("unlikelier", 1), ("chances",))[4:], [[2], [2, 1, 0, 1]])
        self.assertEqual(said(*ground, ("unlikelier", 2), ("chances",))[4:], [[2], [3, 2, 1, 0]])
        found = said(*ground, ("unlikelier", 0), ("unlikelier", 1), ("chances",), ("unlikelier", 1))
        self.assertEqual(found[4:], [[2], [1], [1, 0, 1, 0], [-2]])

    def test_nothing_told_so(self):
        found = said(("begin", 1, 1), ("unlikelier", 0), ("likelier", 0, 1, 0), ("unlikelier", 1), ("unlikelier", BIG),
                     ("unlikelier", 0), ("unlikelier", 0))
        self.assertEqual(found[1:], [[-2], [0], [-2], [-2], [0], [-2]])


class Lot(unittest.TestCase):
    def test_its_number(self):
        lots = [("lot", [prize, 0]) for prize in (0, 1, 2, 3, 0)]
        self.assertEqual(said(("begin", 2, 4), *lots)[1:], [[0], [1], [2], [3], [4]])

    def test_four_worlds_and_four_prizes(self):
        self.assertEqual(said(("begin", 4, 4), ("lot", [3, 2, 1, 0]), ("prize", 0, 0, 0), ("prize", 0, 3, 3))[1:],
                         [[0], [3], [0]])

    def test_no_prize_for_each_world(self):
        wrong = [[], [0], [0, 0, 0], [3, 0], [0, 3], [BIG, 0], [0, BIG]]
        found = said(("begin", 2, 3), *[("lot", row) for row in wrong], ("unlot", 0), ("back",), ("lot", [2, 2]))
        self.assertEqual(found[1:], [[-22]] * 7 + [[-2], [-6], [0]])

    def test_too_many(self):
        found = said(("begin", 1, 1), *[("lot", [0])] * 6, ("unlot", 4), ("lot", [0]))
        self.assertEqual(found[5:], [[4], [-28], [4, 0], [4]])

    def test_not_right_is_ahead_of_too_many(self):
        found = said(("begin", 1, 1), *[("lot", [0])] * 5, ("lot", []), ("lot", [1]), ("lot", [0]))
        self.assertEqual(found[6:], [[-22], [-22], [-28]])


class Unlot(unittest.TestCase):
    GROUND = [("begin", 1, 4), ("lot", [0]), ("lot", [1]), ("lot", [2]), ("lot", [3])]

    def test_how_many_lots_then_how_many_told(self):
        found = said(*self.GROUND, ("rather", 0, 0, 1), ("rather", 0, 1, 2), ("rather", 0, 2, 3), ("unlot", 0))
        self.assertEqual(found[-1], [3, 2])

    def test_those_behind_are_one_less(self):
        found = said(*self.GROUND, ("unlot", 1), ("prize", 0, 0, 0), ("prize", 1, 0, 0), ("prize", 2, 0, 0),
                     ("prize", 3, 0, 0))
        self.assertEqual(found[5:], [[3, 0], [0], [2], [3], [-2]])

    def test_those_behind_are_one_less_in_what_is_told(self):
        # Prize 3 over prize 2 and prize 2 over prize 0 stay told when the lot between goes.
        told = [("rather", 0, 3, 2), ("rather", 0, 2, 0), ("rather", 0, 1, 3)]
        found = said(*self.GROUND, *told, ("ways",), ("unlot", 1), ("ways",), ("least",), ("more", 2, 1), ("more", 1, 0))
        self.assertEqual(found[8:], [[70], [3, 2], [448], [7, 1, 1, 2, 3], [2], [2]])

    def test_told_of_as_first_and_as_second(self):
        told = [("rather", 0, 0, 1), ("rather", 0, 1, 2), ("rather", 0, 2, 3), ("rather", 1, 3, 1), ("rather", 2, 1, 1)]
        found = said(*self.GROUND, *told, ("unlot", 1), ("least",), ("unrather", 0), ("unrather", 0))
        self.assertEqual(found[10:], [[3, 1], [5, 1, 1, 2, 1], [0], [-2]])

    def test_no_such_lot(self):
        found = said(("begin", 1, 1), ("unlot", 0), ("lot", [0]), ("unlot", 1), ("unlot", BIG), ("unlot", 0), ("unlot", 0))
        self.assertEqual(found[1:], [[-2], [0], [-2], [-2], [0, 0], [-2]])


class Prize(unittest.TestCase):
    def test_what_it_had_there(self):
        found = said(("begin", 2, 3), ("lot", [0, 1]), ("lot", [2, 2]), ("prize", 0, 0, 2), ("prize", 0, 0, 1),
                     ("prize", 0, 1, 0), ("prize", 0, 1, 1), ("prize", 1, 0, 0), ("prize", 1, 1, 0))
        self.assertEqual(found[3:], [[0], [2], [1], [0], [2], [2]])

    def test_no_such_lot_world_or_prize(self):
        wrong = [("prize", 1, 0, 0), ("prize", BIG, 0, 0), ("prize", 0, 2, 0), ("prize", 0, BIG, 0), ("prize", 0, 0, 3),
                 ("prize", 0, 0, BIG), ("prize", 1, 2, 3)]
        found = said(("begin", 2, 3), ("lot", [0, 1]), *wrong, ("prize", 0, 0, 2), ("prize", 0, 1, 2))
        self.assertEqual(found[2:], [[-2]] * 7 + [[0], [1]])


class Rather(unittest.TestCase):
    GROUND = [("begin", 1, 2), ("lot", [0]), ("lot", [1])]

    def test_its_number(self):
        told = [("rather", kind, 0, 1) for kind in (0, 1, 2, 0, 1)]
        self.assertEqual(said(*self.GROUND, *told)[3:], [[0], [1], [2], [3], [4]])

    def test_refusals(self):
        wrong = [("rather", 0, 2, 0), ("rather", 0, 0, 2), ("rather", 0, BIG, BIG), ("rather", 3, 0, 1),
                 ("rather", BIG, 0, 1)]
        found = said(*self.GROUND, *wrong, ("ways",), ("unrather", 0))
        self.assertEqual(found[3:], [[-2], [-2], [-2], [-22], [-22], [64], [-2]])

    def test_too_many(self):
        found = said(*self.GROUND, *[("rather", 1, 0, 0)] * 5, ("rather", 0, 0, 1), ("ways",), ("unrather", 4),
                     ("rather", 0, 0, 1), ("ways",))
        self.assertEqual(found[8:], [[-28], [64], [4], [4], [28]])

    def test_order_of_refusals(self):
        full = [("rather", 1, 0, 0)] * 5
        found = said(*self.GROUND, ("rather", 3, 2, 0), ("rather", 3, 0, 2), *full, ("rather", 3, 0, 2),
                     ("rather", 0, 2, 0), ("rather", 3, 0, 1), ("rather", 0, 0, 1))
        self.assertEqual(found[3:5], [[-2], [-2]])
        self.assertEqual(found[10:], [[-2], [-2], [-22], [-28]])

    def test_numbers_that_can_not_be_are_no_refusal(self):
        found = said(*self.GROUND, ("rather", 0, 0, 0), ("rather", 0, 0, 1), ("rather", 0, 1, 0))
        self.assertEqual(found[3:], [[0], [1], [2]])


class Unrather(unittest.TestCase):
    def test_those_behind_are_one_less(self):
        ground = [("begin", 1, 3), ("lot", [0]), ("lot", [1]), ("lot", [2]), ("rather", 0, 0, 1), ("rather", 0, 1, 2),
                  ("rather", 0, 2, 0)]
        self.assertEqual(said(*ground, ("unrather", 0), ("least",))[7:], [[2], [6, 1, 3, 2]])
        self.assertEqual(said(*ground, ("unrather", 1), ("least",))[7:], [[2], [6, 2, 1, 3]])
        self.assertEqual(said(*ground, ("unrather", 2), ("least",))[7:], [[2], [6, 3, 2, 1]])
        found = said(*ground, ("unrather", 0), ("unrather", 1), ("least",), ("unrather", 1))
        self.assertEqual(found[7:], [[2], [1], [4, 1, 2, 1], [-2]])

    def test_nothing_told_so(self):
        found = said(("begin", 1, 1), ("lot", [0]), ("unrather", 0), ("rather", 2, 0, 0), ("unrather", 1),
                     ("unrather", BIG), ("unrather", 0), ("unrather", 0))
        self.assertEqual(found[2:], [[-2], [0], [-2], [-2], [0], [-2]])


if __name__ == "__main__":
    unittest.main()

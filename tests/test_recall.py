"""look, told and state: what was told, whatever the chances and numbers."""

import unittest

from helper import last, line, said
from wouldrather.reading import read_calls
from wouldrather.session import Session

BIG = 4294967295
CAN_NOT_BE = [("likelier", 0, 0, 0), ("rather", 0, 0, 0)]


class Look(unittest.TestCase):
    def test_one_and_four_worlds(self):
        self.assertEqual(last(("begin", 1, 1), ("lot", [0]), ("look", 0)), [1, 0])
        self.assertEqual(last(("begin", 4, 4), ("lot", [3, 0, 2, 1]), ("look", 0)), [4, 3, 0, 2, 1])

    def test_of_five_lots_the_one_asked_for(self):
        rows = [[0, 1], [1, 0], [2, 2], [3, 1], [1, 3]]
        found = said(("begin", 2, 4), *[("lot", row) for row in rows], *[("look", lot) for lot in range(5)])
        self.assertEqual(found[6:], [[2] + row for row in rows])

    def test_a_lot_that_is_changed(self):
        found = said(("begin", 2, 2), ("lot", [0, 0]), ("lot", [0, 0]), ("prize", 0, 1, 1), ("look", 0), ("look", 1),
                     ("back",), ("look", 0), ("again",), ("look", 0))
        self.assertEqual(found[4:], [[2, 0, 1], [2, 0, 0], [2], [2, 0, 0], [0], [2, 0, 1]])

    def test_a_lot_behind_one_that_goes(self):
        found = said(("begin", 1, 3), *[("lot", [prize]) for prize in range(3)], ("unlot", 1), ("look", 0), ("look", 1),
                     ("look", 2), ("back",), ("look", 2), ("look", 1))
        self.assertEqual(found[4:], [[2, 0], [1, 0], [1, 2], [-2], [3], [1, 2], [1, 1]])

    def test_none_such(self):
        found = said(("begin", 1, 1), ("look", 0), ("lot", [0]), ("look", 1), ("look", BIG), ("look", 0))
        self.assertEqual(found[1:], [[-2], [0], [-2], [-2], [1, 0]])

    def test_refused_by_nothing_else(self):
        self.assertEqual(said(("begin", 1, 1), ("lot", [0]), *CAN_NOT_BE, ("look", 0), ("look", 1))[4:], [[1, 0], [-2]])


class Told(unittest.TestCase):
    LOTS = [("begin", 1, 3)] + [("lot", [prize]) for prize in range(3)]

    def test_kind_and_lots_in_order(self):
        told = [(0, 1, 2), (1, 2, 0), (2, 0, 1), (0, 2, 2), (1, 1, 0)]
        found = said(*self.LOTS, *[("rather",) + one for one in told], *[("told", place) for place in range(5)])
        self.assertEqual(found[9:], [list(one) for one in told])

    def test_those_behind_one_that_goes(self):
        told = [("rather", 0, 1, 2), ("rather", 1, 2, 0), ("rather", 2, 0, 1)]
        found = said(*self.LOTS, *told, ("unrather", 1), ("told", 0), ("told", 1), ("told", 2), ("back",), ("told", 2))
        self.assertEqual(found[7:], [[2], [0, 1, 2], [2, 0, 1], [-2], [6], [2, 0, 1]])

    def test_lots_that_are_one_less(self):
        told = [("rather", 0, 1, 2), ("rather", 1, 2, 0), ("rather", 2, 2, 2), ("rather", 0, 0, 0)]
        found = said(*self.LOTS, *told, ("unlot", 1), ("told", 0), ("told", 1), ("told", 2), ("told", 3), ("back",),
                     ("told", 0), ("told", 1))
        self.assertEqual(found[8:], [[2, 3], [1, 1, 0], [2, 1, 1], [0, 0, 0], [-2], [7], [0, 1, 2], [1, 2, 0]])

    def test_not_of_what_was_told_likelier(self):
        self.assertEqual(last(("begin", 1, 1), ("likelier", 1, 1, 0), ("told", 0)), [-2])

    def test_none_such(self):
        found = said(*self.LOTS, ("told", 0), ("rather", 1, 0, 1), ("told", 1), ("told", BIG), ("told", 0))
        self.assertEqual(found[4:], [[-2], [0], [-2], [-2], [1, 0, 1]])

    def test_refused_by_nothing_else(self):
        found = said(("begin", 1, 1), ("lot", [0]), *CAN_NOT_BE, ("told", 0), ("told", 1))
        self.assertEqual(found[4:], [[0, 0, 0], [-2]])


class State(unittest.TestCase):
    def test_at_the_beginning(self):
        for worlds in (1, 4):
            for prizes in (1, 4):
                self.assertEqual(last(("begin", worlds, prizes), ("state",)), [worlds, prizes, 0, 0, 0, 0, 0])

    def test_each_count_has_its_place(self):
        calls = [("begin", 2, 3), ("likelier", 1, 1, 2), ("lot", [0, 0]), ("lot", [1, 1]), ("lot", [2, 2]),
                 ("rather", 0, 0, 1), ("rather", 0, 1, 2), ("state",), ("back",), ("state",), ("back",), ("state",),
                 ("again",), ("state",), ("prize", 0, 0, 0), ("state",), ("unlikelier", 0), ("unlot", 2), ("state",)]
        found = [answer for call, answer in zip(calls, said(*calls)) if call == ("state",)]
        self.assertEqual(found, [[2, 3, 1, 3, 2, 6, 0], [2, 3, 1, 3, 1, 5, 1], [2, 3, 1, 3, 0, 4, 2],
                                 [2, 3, 1, 3, 1, 5, 1], [2, 3, 1, 3, 1, 6, 0], [2, 3, 0, 2, 1, 8, 0]])

    def test_all_full(self):
        calls = [("begin", 4, 4), *[("likelier", 1, 15, 0)] * 5, *[("lot", [0] * 4)] * 6, *[("rather", 1, 0, 4)] * 6]
        self.assertEqual(last(*calls, ("state",)), [4, 4, 4, 5, 5, 14, 0])

    def test_at_most_20_are_kept(self):
        session = Session()

        def answered(*calls):
            return [session.answer(call, given) for call, given in read_calls(line(calls))]
        answered(("begin", 1, 1), ("lot", [0]), *[("prize", 0, 0, 0)] * 18)
        kept = []
        for turn in range(3):
            kept.append(answered(("state",))[0][5])
            answered(("prize", 0, 0, 0))
        self.assertEqual(kept, [19, 20, 20])
        found = []
        for turn in range(21):
            answered(("back",))
            found.append(answered(("state",))[0][5:])
        self.assertEqual(found, [[19 - turn, turn + 1] for turn in range(20)] + [[0, 20]])
        self.assertEqual(answered(("prize", 0, 0, 0), ("state",)), [[0], [1, 1, 0, 1, 0, 1, 0]])

    def test_behind_another_begin(self):
        found = said(("begin", 1, 1), ("lot", [0]), ("lot", [0]), ("back",), ("begin", 5, 1), ("state",), ("begin", 2, 3),
                     ("state",))
        self.assertEqual(found[4:], [[-22], [1, 1, 0, 1, 0, 1, 1], [0], [2, 3, 0, 0, 0, 0, 0]])

    def test_refused_by_nothing_else(self):
        self.assertEqual(last(("begin", 1, 1), ("lot", [0]), *CAN_NOT_BE, ("state",)), [1, 1, 1, 1, 1, 3, 0])


if __name__ == "__main__":
    unittest.main()

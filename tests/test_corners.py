"""The corners that the document names, and what holds."""

import itertools
import unittest

from helper import last, said

ASKED = [("chances",), ("ways",), ("least",), ("fits", [2, 1]), ("worth", 0), ("more", 0, 1)]
# Behind a begin with 2 worlds and 2 prizes, two lots and one that is told rather, all of these are right.
ASKED_TOO = [("may", 0, 0, 1), ("ineach", 0, 1), ("best",), ("maybest",), ("prizes", 0, 1), ("learn", 1), ("learnall",),
             ("clashes",), ("spare",), ("wrong", [2, 1]), ("side", 0), ("rules", 1, 2), ("look", 0), ("told", 0),
             ("state",)]
FALLING = [("likelier", 0, 1, 2), ("likelier", 0, 2, 0)]


class Corners(unittest.TestCase):
    def test_no_lots(self):
        found = said(("begin", 2, 2), *ASKED, ("rather", 0, 0, 0), ("unlot", 0), ("prize", 0, 0, 0))
        self.assertEqual(found[1:], [[1, 0, 1], [64], [2, 1, 1], [1], [-2], [-2], [-2], [-2], [-2]])

    def test_no_lots_and_what_else_is_asked(self):
        found = said(("begin", 2, 2), *ASKED_TOO)
        self.assertEqual(found[1:], [[-2], [-2], [0], [0], [0], [-6], [-6], [-33], [0], [0], [-2], [0], [-2], [-2],
                                     [2, 2, 0, 0, 0, 0, 0]])

    def test_two_lots_alike_and_what_else_is_asked(self):
        ground = [("begin", 2, 2), *FALLING, ("lot", [0, 1]), ("lot", [0, 1])]
        found = said(*ground, ("may", 0, 0, 1), ("may", 1, 0, 1), ("may", 2, 0, 1), ("ineach", 0, 1), ("ineach", 1, 0),
                     ("best",), ("maybest",), ("learn", 1), ("side", 1), ("rather", 2, 1, 0), ("spare",),
                     ("rather", 0, 1, 0), ("clashes",), ("wrong", [8, 1]))
        self.assertEqual(found[5:], [[0], [1], [1], [1], [1], [2, 0, 1], [2, 0, 1], [0, 0, 1], [2, 2, 1], [0], [1, 0],
                                     [1], [1, 2], [1, 1]])

    def test_a_world_without_a_share_and_what_else_is_asked(self):
        ground = [("begin", 2, 2), ("lot", [0, 1]), ("lot", [1, 0]), ("lot", [1, 1]), ("rather", 0, 1, 2)]
        found = said(*ground, ("chances",), ("least",), ("learn", 1), ("learn", 2), ("learnall",), ("best",), ("side", 0),
                     ("ineach", 0, 2), ("ineach", 1, 0), ("may", 2, 0, 2), ("may", 0, 0, 2), ("prizes", 0, 1))
        self.assertEqual(found[5:], [[1, 0, 1], [3, 2, 1], [0, 0, 1], [0, 0, 1], [0, 0, 1], [1, 1], [2, 0, 1], [1], [0],
                                     [1], [0], [2]])

    def test_all_prizes_alike_and_what_else_is_asked(self):
        ground = [("begin", 2, 1), *FALLING, ("lot", [0, 0]), ("lot", [0, 0])]
        found = said(*ground, ("may", 0, 0, 1), ("ineach", 0, 1), ("best",), ("maybest",), ("prizes", 0, 0), ("learn", 1),
                     ("learnall",), ("side", 0), ("look", 1), ("rather", 0, 0, 1), ("clashes",), ("wrong", [3]))
        self.assertEqual(found[5:], [[0], [1], [2, 0, 1], [2, 0, 1], [1], [0, 0, 1], [0, 0, 1], [1, 3], [2, 0, 0], [0],
                                     [1, 1], [1, 0]])

    def test_a_changed_lot_and_what_else_is_asked(self):
        ground = [("begin", 1, 3), ("lot", [0]), ("lot", [1]), ("rather", 0, 0, 1), ("rather", 1, 0, 1)]
        found = said(*ground, ("prizes", 0, 1), ("spare",), ("prize", 0, 0, 2), ("prizes", 0, 1), ("prizes", 2, 1),
                     ("look", 0), ("told", 0), ("prize", 1, 0, 2), ("clashes",), ("wrong", [8, 1, 1]), ("told", 0),
                     ("back",), ("back",), ("look", 0), ("prizes", 0, 1))
        self.assertEqual(found[5:], [[2], [1, 1], [0], [0], [2], [1, 2], [0, 0, 1], [1], [1, 1], [1, 0], [0, 0, 1], [5],
                                     [4], [1, 0], [2]])

    def test_a_lot_that_goes_and_what_else_is_asked(self):
        ground = [("begin", 1, 3), ("lot", [0]), ("lot", [1]), ("lot", [2]), ("rather", 0, 0, 1), ("rather", 0, 1, 2),
                  ("rather", 0, 0, 2), ("rather", 0, 1, 1)]
        found = said(*ground, ("clashes",), ("unlot", 1), ("told", 0), ("told", 1), ("look", 1), ("best",), ("clashes",),
                     ("spare",), ("state",), ("back",), ("clashes",), ("told", 3), ("state",))
        self.assertEqual(found[8:], [[1, 8], [2, 1], [0, 0, 1], [-2], [1, 2], [1, 0], [-33], [0], [1, 3, 0, 2, 1, 8, 0],
                                     [7], [1, 8], [0, 1, 1], [1, 3, 0, 3, 4, 7, 1]])

    def test_a_lot_told_of_itself_and_what_else_is_asked(self):
        ground = [("begin", 1, 2), ("lot", [0]), ("lot", [1])]
        for kind, spare, clashes, wrong in ((0, [-33], [1, 1], [1, 0]), (1, [1, 0], [-33], [0]), (2, [1, 0], [-33], [0])):
            found = said(*ground, ("rather", kind, 1, 1), ("spare",), ("clashes",), ("wrong", [1, 8]), ("told", 0))
            self.assertEqual(found[3:], [[0], spare, clashes, wrong, [kind, 1, 1]])

    def test_chances_that_can_not_be_and_what_else_is_asked(self):
        told = [("likelier", 0, 1, 2), ("likelier", 0, 2, 1)]
        for rather in (("rather", 1, 0, 1), ("rather", 0, 0, 0)):
            found = said(("begin", 2, 2), ("lot", [0, 1]), ("lot", [1, 0]), *told, rather, *ASKED_TOO)
            self.assertEqual(found[6:], [[-61]] * 11 + [[2], [2, 0, 1], list(rather[1:]), [2, 2, 2, 2, 1, 5, 0]])

    def test_numbers_that_can_not_be_and_what_else_is_asked(self):
        found = said(("begin", 2, 2), *FALLING, ("lot", [0, 1]), ("lot", [1, 0]), ("rather", 0, 0, 0), *ASKED_TOO)
        self.assertEqual(found[6:], [[-33]] * 7 + [[1, 1], [-33], [1, 0], [2, 2, 1], [2], [2, 0, 1], [0, 0, 0],
                                                   [2, 2, 2, 2, 1, 5, 0]])

    def test_learning_what_is_known(self):
        ground = [("begin", 2, 2), *FALLING, ("lot", [0, 1]), ("lot", [1, 0]), ("lot", [1, 1]), ("rather", 0, 0, 2)]
        found = said(*ground, ("learn", 0), ("learn", 3), ("learn", 1), ("learn", 2), ("learnall",))
        self.assertEqual(found[7:], [[0, 0, 1], [0, 0, 1], [0, 1, 3], [0, 1, 3], [0, 1, 3]])

    def test_two_lots_alike(self):
        ground = [("begin", 2, 2), *FALLING, ("lot", [0, 1]), ("lot", [0, 1])]
        found = said(*ground, ("more", 0, 1), ("more", 1, 0), ("rather", 2, 0, 1), ("ways",), ("rather", 1, 1, 0),
                     ("ways",), ("rather", 0, 0, 1), ("ways",), ("more", 0, 1))
        self.assertEqual(found[5:], [[1], [1], [0], [64], [1], [64], [2], [0], [-33]])

    def test_a_world_without_a_share(self):
        # Only world 1 has a share, so what the lots have in world 0 counts nothing.
        ground = [("begin", 2, 2), ("lot", [0, 1]), ("lot", [1, 1])]
        found = said(*ground, ("more", 0, 1), ("more", 1, 0), ("rather", 0, 0, 1), ("ways",), ("unrather", 0),
                     ("prize", 0, 0, 1), ("prize", 0, 1, 0), ("rather", 0, 0, 1), ("least",))
        self.assertEqual(found[3:], [[1], [1], [0], [0], [0], [0], [1], [0], [3, 2, 1]])

    def test_all_prizes_alike(self):
        ground = [("begin", 2, 1), *FALLING, ("lot", [0, 0]), ("lot", [0, 0])]
        found = said(*ground, ("ways",), ("least",), ("worth", 1), ("more", 0, 1), ("rather", 0, 0, 1), ("ways",))
        self.assertEqual(found[5:], [[8], [1, 1], [0, 1, 1, 8, 1], [1], [0], [0]])

    def test_all_prizes_told_alike(self):
        ground = [("begin", 1, 3), ("lot", [0]), ("lot", [1]), ("lot", [2]), ("rather", 2, 0, 1), ("rather", 2, 1, 2)]
        found = said(*ground, ("ways",), ("least",), ("more", 0, 2), ("more", 2, 0))
        self.assertEqual(found[6:], [[8], [3, 1, 1, 1], [1], [1]])

    def test_a_lot_that_is_changed_behind_what_was_told(self):
        ground = [("begin", 1, 3), ("lot", [0]), ("lot", [1]), ("rather", 0, 0, 1)]
        found = said(*ground, ("least",), ("prize", 0, 0, 2), ("least",), ("prize", 1, 0, 2), ("least",), ("ways",),
                     ("back",), ("back",), ("least",))
        self.assertEqual(found[4:], [[4, 2, 1, 1], [0], [4, 1, 1, 2], [1], [-33], [0], [4], [3], [4, 2, 1, 1]])

    def test_a_lot_that_goes_and_was_told_of_twice(self):
        ground = [("begin", 1, 3), ("lot", [0]), ("lot", [1]), ("lot", [2]), ("rather", 0, 0, 1), ("rather", 0, 1, 2),
                  ("rather", 0, 0, 2)]
        found = said(*ground, ("unlot", 1), ("least",), ("back",), ("least",), ("again",), ("unlot", 0), ("least",))
        self.assertEqual(found[7:], [[2, 1], [4, 2, 1, 1], [6], [6, 3, 2, 1], [0], [1, 0], [3, 1, 1, 1]])

    def test_a_lot_told_of_itself(self):
        ground = [("begin", 1, 2), ("lot", [0]), ("lot", [1])]
        for kind, ways, more in ((0, 0, -33), (1, 64, 1), (2, 64, 1)):
            found = said(*ground, ("rather", kind, 0, 0), ("ways",), ("more", 0, 0), ("unlot", 0), ("ways",))
            self.assertEqual(found[3:], [[0], [ways], [more], [1, 0], [64]])

    def test_chances_that_can_not_be(self):
        ground = [("begin", 2, 2), ("lot", [0, 1]), ("lot", [1, 0]), ("likelier", 0, 1, 2), ("likelier", 0, 2, 1)]
        found = said(*ground, *ASKED, ("lot", [1, 1]), ("rather", 0, 0, 2), ("unlikelier", 0), ("chances",), ("least",))
        self.assertEqual(found[5:], [[-61]] * 6 + [[2], [0], [1], [1, 0, 1], [-33]])

    def test_numbers_that_can_not_be(self):
        ground = [("begin", 1, 2), ("lot", [0]), ("lot", [1]), ("rather", 0, 0, 1), ("rather", 0, 1, 0)]
        found = said(*ground, *ASKED, ("unrather", 1), *ASKED)
        self.assertEqual(found[5:11], [[1, 1], [0], [-33], [0], [-33], [-33]])
        self.assertEqual(found[11:], [[1], [1, 1], [28], [3, 2, 1], [1], [0, 2, 1, 8, 1], [2]])


class WhatHolds(unittest.TestCase):
    def test_all_that_fit_are_told(self):
        ground = [("begin", 2, 2), *FALLING, ("lot", [0, 1]), ("lot", [1, 0]), ("rather", 0, 0, 1)]
        rows = [list(row) for row in itertools.product(range(1, 9), repeat=2)]
        fit = [row for row in rows if last(*ground, ("fits", row)) == [1]]
        self.assertEqual(last(*ground, ("ways",)), [len(fit)])
        self.assertEqual(len(fit), 28)
        self.assertEqual(last(*ground, ("least",)), [3] + min(fit, key=sum))
        self.assertEqual(last(*ground, ("fits", [1, 2])), [0])

    def test_no_worse_in_any_world_is_worth_no_less(self):
        # Prize 0 is told no worse than prize 1, so to have it in more worlds is worth no less.
        told = [("rather", 1, 0, 1)]
        for ahead in itertools.product((0, 1), repeat=2):
            for other in itertools.product((0, 1), repeat=2):
                if all(p <= q for p, q in zip(ahead, other)):
                    for chances in ([], FALLING, [("likelier", 2, 1, 2)]):
                        found = last(("begin", 2, 2), *chances, ("lot", [0, 0]), ("lot", [1, 1]), *told,
                                     ("lot", list(ahead)), ("lot", list(other)), ("more", 2, 3))
                        self.assertIn(found, ([1], [2]))

    def test_worlds_in_which_two_lots_are_alike_do_not_matter(self):
        ground = [("begin", 3, 3), ("likelier", 0, 1, 2), ("likelier", 0, 2, 4), ("likelier", 0, 4, 0),
                  ("lot", [0, 0, 0]), ("lot", [1, 1, 1]), ("rather", 1, 0, 1)]
        for first, second in itertools.product(itertools.product(range(3), repeat=2), repeat=2):
            found = {tuple(last(*ground, ("lot", [first[0], same, first[1]]), ("lot", [second[0], same, second[1]]),
                                ("more", 2, 3))) for same in range(3)}
            self.assertEqual(len(found), 1)

    def test_alike_worlds_do_not_matter_to_what_is_told_either(self):
        for kind in (0, 1, 2):
            found = {tuple(last(("begin", 2, 3), *FALLING, ("lot", [0, same]), ("lot", [1, same]),
                                ("rather", kind, 0, 1), ("ways",))) for same in range(3)}
            self.assertEqual(len(found), 1)

    def test_what_was_told_is_told_of_lots_that_are_there(self):
        lots = [("lot", [prize]) for prize in (0, 1, 2, 0, 1)]
        told = [("rather", 1, 0, 4), ("rather", 1, 4, 1), ("rather", 1, 3, 2), ("rather", 1, 2, 2), ("rather", 1, 1, 0)]
        found = said(("begin", 1, 3), *lots, *told, *[("unlot", 0)] * 5, ("ways",), ("unrather", 0))
        self.assertEqual(found[11:], [[4, 3], [3, 2], [2, 0], [1, 0], [0, 0], [512], [-2]])

    def test_what_is_refused_changes_nothing(self):
        full = [("begin", 2, 2), ("likelier", 1, 3, 1), ("likelier", 0, 1, 2), ("likelier", 0, 2, 0),
                ("likelier", 1, 1, 2), ("lot", [0, 1]), ("lot", [1, 1]), *[("lot", [1, 0])] * 3,
                *[("rather", 0, 0, 1)] * 4, ("rather", 1, 0, 1)]
        wrong = [("begin", 0, 0), ("begin", 5, 1), ("likelier", 0, 1, 2), ("likelier", 3, 0, 0), ("unlikelier", 4),
                 ("lot", [0, 0]), ("lot", [0]), ("unlot", 5), ("prize", 5, 0, 0), ("prize", 0, 2, 0), ("prize", 0, 0, 2),
                 ("rather", 0, 0, 1), ("rather", 3, 0, 1), ("rather", 0, 5, 0), ("unrather", 5), ("again",),
                 ("fits", [0, 0]), ("worth", 5), ("more", 0, 5), ("may", 3, 0, 1), ("may", 0, 5, 0), ("ineach", 0, 5),
                 ("prizes", 2, 0), ("learn", 4), ("clashes",), ("wrong", [9, 1]), ("side", 5), ("rules", 4, 0),
                 ("look", 5), ("told", 5)]
        asked = ASKED + [("state",), ("look", 0), ("look", 4), ("told", 4), ("back",), ("told", 4), ("state",)]
        before = said(*full, *asked)[len(full):]
        self.assertEqual(before, [[3, 2, 1], [28], [3, 2, 1], [1], [0, 5, 3, 23, 3], [2], [2, 2, 4, 5, 5, 14, 0],
                                  [2, 0, 1], [2, 1, 0], [1, 0, 1], [13], [-2], [2, 2, 4, 5, 4, 13, 1]])
        for call in wrong:
            with self.subTest(call):
                found = said(*full, call, *asked)[len(full):]
                self.assertLess(found[0][0], 0)
                self.assertEqual(len(found[0]), 1)
                self.assertEqual(found[1:], before)


if __name__ == "__main__":
    unittest.main()

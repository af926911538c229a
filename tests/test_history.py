"""begin, back and again: what is a change, and how many are kept."""

import unittest

from helper import last, line, said
from wouldrather.reading import read_calls
from wouldrather.session import Session

BIG = 4294967295
PROBES = [("chances",), ("ways",), ("least",), ("worth", 0), ("worth", 1), ("more", 1, 2)]
GROUND = [("begin", 2, 2), ("likelier", 2, 1, 2), ("likelier", 1, 2, 1), ("lot", [0, 0]), ("lot", [1, 0]),
          ("rather", 1, 0, 1), ("rather", 0, 0, 1)]
CHANGES = [("likelier", 0, 1, 2), ("unlikelier", 0), ("lot", [1, 1]), ("unlot", 0), ("prize", 1, 1, 1),
           ("rather", 2, 1, 0), ("unrather", 1)]


def said_by(session, *calls):
    """Answers of an object that is used on, so that more calls than a line has can be tried."""
    return [session.answer(call, given) for call, given in read_calls(line(calls))]


class Begin(unittest.TestCase):
    def test_how_many_worlds_and_prizes(self):
        for worlds in (0, 1, 4, 5, BIG):
            for prizes in (0, 1, 4, 5, BIG):
                right = worlds in (1, 4) and prizes in (1, 4)
                self.assertEqual(said(("begin", worlds, prizes)), [[0 if right else -22]])

    def test_worlds_come_first_then_prizes(self):
        found = said(("begin", 2, 3), ("chances",), ("ways",))
        self.assertEqual(found, [[0], [1, 0, 1], [512]])

    def test_a_second_time_all_is_gone(self):
        found = said(*GROUND, ("back",), ("begin", 1, 3), ("chances",), ("ways",), ("unlot", 0), ("unlikelier", 0),
                     ("unrather", 0), ("back",), ("again",))
        self.assertEqual(found[len(GROUND):], [[5], [0], [1, 1], [512], [-2], [-2], [-2], [-6], [-6]])

    def test_a_second_time_refused_all_stays(self):
        for wrong in (("begin", 0, 2), ("begin", 2, 5)):
            with self.subTest(wrong):
                found = said(*GROUND, ("back",), *PROBES, wrong, *PROBES, ("again",), ("back",))
                behind = found[len(GROUND) + 1:]
                self.assertEqual(behind[6], [-22])
                self.assertEqual(behind[:6], behind[7:13])
                self.assertEqual(behind[13:], [[0], [5]])


class BackAndAgain(unittest.TestCase):
    def test_nothing_to_take_back(self):
        self.assertEqual(said(("begin", 1, 1), ("back",), ("again",)), [[0], [-6], [-6]])

    def test_how_many_still_are(self):
        found = said(("begin", 1, 2), ("lot", [0]), ("lot", [1]), ("rather", 0, 0, 1), ("back",), ("back",), ("again",),
                     ("back",), ("back",), ("back",), ("again",), ("again",), ("again",), ("again",), ("back",))
        self.assertEqual(found[4:], [[2], [1], [1], [1], [0], [-6], [2], [1], [0], [-6], [2]])

    def test_each_change_is_taken_back_and_done_again(self):
        for change in CHANGES:
            with self.subTest(change):
                before = said(*GROUND, *PROBES)[len(GROUND):]
                found = said(*GROUND, change, *PROBES, ("back",), *PROBES, ("again",), *PROBES)[len(GROUND):]
                self.assertGreaterEqual(found[0][0], 0)
                self.assertNotEqual(found[1:7], before)
                self.assertEqual(found[7], [6])
                self.assertEqual(found[8:14], before)
                self.assertEqual(found[14], [0])
                self.assertEqual(found[15:21], found[1:7])

    def test_prize_that_stays_is_a_change(self):
        found = said(("begin", 1, 1), ("lot", [0]), ("prize", 0, 0, 0), ("back",), ("back",), ("back",))
        self.assertEqual(found[2:], [[0], [1], [0], [-6]])

    def test_asking_is_no_change(self):
        asked = PROBES[:4] + [
            ("more", 0, 1), ("fits", [2, 1]), ("may", 0, 0, 1), ("ineach", 0, 1), ("best",), ("maybest",), ("prizes", 0, 1),
            ("learn", 1), ("learnall",), ("clashes",), ("spare",), ("wrong", [2, 1]), ("side", 0), ("rules", 1, 2),
            ("look", 0), ("told", 0), ("state",)]
        for call in asked:
            with self.subTest(call):
                found = said(*GROUND, ("back",), ("state",), call, ("state",), ("again",), call, ("state",), ("back",))
                found = found[len(GROUND):]
                self.assertEqual(found[0], [5])
                self.assertEqual(found[1], [2, 2, 2, 2, 1, 5, 1])
                self.assertEqual(found[3], found[1])
                self.assertEqual(found[4], [0])
                self.assertEqual(found[6:], [[2, 2, 2, 2, 2, 6, 0], [5]])

    def test_refused_asking_is_no_change(self):
        asked = [("worth", 9), ("more", 9, 0), ("fits", [9]), ("may", 3, 0, 1), ("may", 0, 9, 0), ("ineach", 0, 9),
                 ("prizes", 9, 0), ("learn", 9), ("clashes",), ("wrong", [9]), ("side", 9), ("rules", 9, 0), ("look", 9),
                 ("told", 9)]
        found = said(*GROUND, ("back",), *asked, ("state",), ("again",), ("state",))[len(GROUND) + 1:]
        self.assertEqual([answer[0] < 0 and len(answer) == 1 for answer in found[:14]], [True] * 14)
        self.assertEqual(found[14:], [[2, 2, 2, 2, 1, 5, 1], [0], [2, 2, 2, 2, 2, 6, 0]])

    def test_a_change_behind_a_back(self):
        found = said(("begin", 1, 3), ("lot", [0]), ("lot", [1]), ("lot", [2]), ("back",), ("back",), ("lot", [2]),
                     ("again",), ("back",), ("again",), ("again",), ("prize", 1, 0, 0))
        self.assertEqual(found[4:], [[2], [1], [1], [-6], [1], [0], [-6], [2]])

    def test_a_refused_change_behind_a_back(self):
        refused = [("lot", [9]), ("likelier", 3, 0, 0), ("unlikelier", 0), ("unlot", 1), ("prize", 0, 0, 9),
                   ("rather", 0, 0, 1), ("unrather", 0), ("begin", 5, 5)]
        found = said(("begin", 1, 2), ("lot", [0]), ("lot", [1]), ("back",), *refused, ("again",), ("again",), ("back",))
        self.assertEqual([answer[0] < 0 for answer in found[4:12]], [True] * 8)
        self.assertEqual(found[12:], [[0], [-6], [1]])


class HowManyAreKept(unittest.TestCase):
    def test_at_most_20(self):
        for changes, left in ((1, 0), (19, 18), (20, 19), (21, 19), (22, 19), (28, 19)):
            with self.subTest(changes):
                prizes = [("prize", 0, 0, 0)] * (changes - 1)
                self.assertEqual(last(("begin", 1, 1), ("lot", [0]), *prizes, ("back",)), [left])

    def test_21_changes_taken_back(self):
        session = Session()
        prizes = [("prize", 0, 0, place % 2) for place in range(1, 20)]
        said_by(session, ("begin", 1, 2), ("lot", [0]), ("lot", [1]), *prizes)
        found = said_by(session, *[("back",)] * 21)
        self.assertEqual(found, [[left] for left in range(19, -1, -1)] + [[-6]])
        # The first change, a lot, is kept no longer and can't be taken back; the second one, another lot, could.
        self.assertEqual(said_by(session, ("worth", 0), ("worth", 1)), [[0, 1, 1, 8, 1], [-2]])
        found = said_by(session, *[("again",)] * 21)
        self.assertEqual(found, [[left] for left in range(19, -1, -1)] + [[-6]])
        self.assertEqual(said_by(session, ("prize", 0, 0, 0), ("unlot", 1)), [[1], [1, 0]])

    def test_20_changes_all_come_back(self):
        session = Session()
        said_by(session, ("begin", 1, 1), ("lot", [0]), *[("prize", 0, 0, 0)] * 19)
        found = said_by(session, *[("back",)] * 21, ("unlot", 0))
        self.assertEqual(found, [[left] for left in range(19, -1, -1)] + [[-6], [-2]])

    def test_one_taken_back_makes_room(self):
        session = Session()
        said_by(session, ("begin", 1, 1), ("lot", [0]), *[("prize", 0, 0, 0)] * 19)
        said_by(session, ("back",), ("prize", 0, 0, 0))
        found = said_by(session, *[("back",)] * 20, ("unlot", 0))
        self.assertEqual(found[-2:], [[0], [-2]])

    def test_one_done_again_is_kept(self):
        prizes = [("prize", 0, 0, 0)] * 20
        found = said(("begin", 1, 1), ("lot", [0]), *prizes, ("back",), ("back",), ("again",), ("again",), ("back",))
        self.assertEqual(found[-5:], [[19], [18], [1], [0], [19]])


if __name__ == "__main__":
    unittest.main()

"""How calls are handed in and answers given back, and -11."""

import unittest

from helper import PLAIN, ROWS, last, line, said
from wouldrather.rather import answers
from wouldrather.reading import read_calls

BIG = 4294967295
EACH_BUT_BEGIN = [(name,) + (0,) * count for name, (number, count) in PLAIN.items() if name != "begin"]
EACH_BUT_BEGIN += [(name, [1, 2]) for name in ROWS]


class Form(unittest.TestCase):
    def test_numbers_in_and_out(self):
        calls = [0, 2, 2, 3, 2, 0, 1, 3, 2, 1, 1, 6, 0, 0, 1, 13, 2, 2, 1, 14, 0, 12]
        # Nothing is told likelier, so the last world has the whole share and both lots are worth the same.
        self.assertEqual(answers(calls), [1, 0, 1, 0, 1, 1, 1, 0, 1, 0, 1, -33, 1, -33])

    def test_each_answer_has_its_count_ahead(self):
        calls = line([("begin", 1, 2), ("lot", [0]), ("chances",), ("least",), ("worth", 0), ("unlot", 0), ("back",)])
        self.assertEqual(answers(calls), [1, 0, 1, 0, 2, 1, 1, 3, 2, 1, 1, 5, 0, 1, 1, 8, 1, 2, 0, 0, 1, 1])

    def test_a_refusal_stands_alone(self):
        self.assertEqual(answers([0, 5, 1]), [1, -22])

    def test_answers_are_plain_whole_numbers(self):
        for told in ((1, 0, 1), (0, 0, 1), (2, 1, 1), (0, 0, 0)):
            ground = [("begin", 1, 2), ("lot", [0]), ("lot", [1]), ("rather",) + told]
            asked = [("fits", [2, 1]), ("fits", [1, 2]), ("more", 0, 1), ("more", 1, 0), ("worth", 0), ("chances",),
                     ("ways",), ("may", 0, 0, 1), ("ineach", 0, 1), ("best",), ("maybest",), ("prizes", 0, 1),
                     ("learn", 1), ("learnall",), ("clashes",), ("spare",), ("wrong", [1, 1]), ("side", 0),
                     ("rules", 1, 0), ("look", 0), ("told", 0), ("state",)]
            found = answers(line(ground + asked))
            self.assertIs(type(found), list)
            self.assertEqual({type(number) for number in found}, {int})

    def test_how_many_numbers_each_answer_has(self):
        ground = [("begin", 2, 3), ("lot", [0, 1]), ("lot", [1, 1]), ("rather", 1, 0, 1)]
        sizes = {("may", 0, 0, 1): 1, ("ineach", 0, 1): 1, ("prizes", 0, 1): 1, ("learn", 1): 3, ("learnall",): 3,
                 ("side", 0): 4, ("rules", 1, 2): 1, ("look", 0): 3, ("told", 0): 3, ("state",): 7}
        self.assertEqual([len(answer) for answer in said(*ground, *sizes)[4:]], list(sizes.values()))
        for call in (("best",), ("maybest",), ("spare",), ("wrong", [1, 2, 3])):
            answer = last(*ground, call)
            self.assertEqual(answer[0], len(answer) - 1)

    def test_what_is_handed_in_stays(self):
        calls = line([("begin", 2, 2), ("lot", [0, 1]), ("prize", 0, 0, 1), ("lot", [1, 1]), ("rather", 2, 0, 1),
                      ("back",), ("again",), ("look", 1), ("spare",), ("best",), ("learnall",), ("unlot", 0),
                      ("fits", [1, 8]), ("wrong", [8, 1]), ("likelier", 0, 1, 2), ("chances",), ("rules", 1, 2)])
        before = list(calls)
        first = answers(calls)
        self.assertEqual(calls, before)
        self.assertEqual(answers(calls), first)
        self.assertEqual(calls, before)

    def test_nothing_is_kept_between_runs(self):
        calls = line([("lot", [0]), ("begin", 1, 2), ("lot", [0]), ("lot", [1]), ("rather", 0, 0, 1),
                      ("likelier", 0, 1, 0), ("back",), ("least",)])
        first = answers(calls)
        self.assertEqual(answers([8]), [1, -11])
        self.assertEqual(answers(calls), first)

    def test_a_list_that_is_kept_by_the_caller_is_its_own(self):
        first = answers([0, 1, 1, 10])
        first.append(7)
        self.assertEqual(answers([0, 1, 1, 10]), [1, 0, 2, 1, 1])


class Reading(unittest.TestCase):
    def test_every_call_is_read_by_its_length(self):
        for call in EACH_BUT_BEGIN + [("begin", 4, 3)]:
            with self.subTest(call[0]):
                numbers = line([call, call, ("back",)])
                found = read_calls(numbers)
                self.assertEqual([number for number, given in found], [numbers[0], numbers[0], 8])
                given = list(call[1]) if call[0] in ROWS else list(call[1:])
                self.assertEqual([row for number, row in found], [given, given, []])

    def test_empty_rows_and_long_rows(self):
        for size in (0, 1, 255):
            self.assertEqual(said(("begin", 2, 2), ("lot", [0] * size), ("fits", [1] * size), ("ways",)),
                             [[0], [-22], [-22], [64]])

    def test_a_row_may_hold_what_looks_like_calls(self):
        self.assertEqual(said(("begin", 2, 2), ("lot", [0, 1, 1, 0, 1, 1]), ("chances",)), [[0], [-22], [1, 0, 1]])


class BeforeBegin(unittest.TestCase):
    def test_every_other_call(self):
        for call in EACH_BUT_BEGIN:
            with self.subTest(call[0]):
                self.assertEqual(said(call), [[-11]])

    def test_refused_begin_is_none(self):
        for call in EACH_BUT_BEGIN:
            with self.subTest(call[0]):
                self.assertEqual(said(("begin", 0, 1), call, ("begin", 1, 1)), [[-22], [-11], [0]])

    def test_ahead_of_every_other_refusal(self):
        wrong = [("likelier", BIG, BIG, BIG), ("unlot", BIG), ("rather", BIG, BIG, BIG), ("fits", [BIG]), ("lot", []),
                 ("may", BIG, BIG, BIG), ("learn", BIG), ("wrong", []), ("rules", BIG, BIG), ("told", BIG)]
        self.assertEqual(said(*wrong), [[-11]] * 10)

    def test_nothing_is_kept_from_ahead_of_a_begin(self):
        self.assertEqual(last(("lot", [0]), ("likelier", 0, 1, 0), ("begin", 1, 1), ("back",)), [-6])


if __name__ == "__main__":
    unittest.main()

import unittest

from dayagreement.agreement import answers
from dayagreement.faults import UnknownCall
from tests.lines import choose, day, opening, waits


class AnswersTest(unittest.TestCase):
    def test_lines_of_one_call(self):
        self.assertEqual(answers([0, 1, 0, 1, 0]), [1, -10])
        self.assertEqual(answers([0, 1, 0, 1, 5, 112, 97, 121, 32, 97]), [3, 1, 1, 97])
        self.assertEqual(answers([0, 1, 1000000, 1, 7] + list(b"pay 1 )")), [1, -16])
        self.assertEqual(answers([1, 0, 0]), [1, -9])
        self.assertEqual(answers([1, 10, 1, 2, 3, 4, 5, 6, 7, 8, 9, 10, 0]), [1, -9])
        self.assertEqual(answers([2, 0, 0]), [1, -9])
        self.assertEqual(answers([3, 2, 0, 0, 0]), [1, -9])
        self.assertEqual(answers([3, 2, 0, 2, 0]), [1, -1])
        self.assertEqual(answers([4, 1, 0, 0]), [1, -9])
        self.assertEqual(answers([4, 1, 1000000, 0]), [1, -9])
        self.assertEqual(answers([5, 0, 0]), [1, -9])
        self.assertEqual(answers([6, 0, 0]), [1, -9])
        self.assertEqual(answers([7, 0, 0]), [1, -7])

    def test_a_line_with_each_call(self):
        line = (
            [0, 1, 4, 1, 17] + list(b"pay ab or pay b*2") + [1, 2, -5, 7, 0] + [2, 0, 0] + [3, 2, 0, 1, 0]
            + [2, 0, 0] + [1, 2, 0, 0, 0]
        )
        self.assertEqual(answers(line), [
            6, 2, 2, 97, 98, 1, 98, 2, 4, 0, 3, 1, 0, 0, 2, 0, 14, 1, 0, 2, 5, 0,
        ])

    def test_a_line_with_all_eight(self):
        # Two texts are refused, one at the name that is no agreement, one at its end.
        line = (
            [0, 1, 4, 1, 26] + list(b"may 5 pay-a and(pay 1or a)")
            + [0, 1, 4, 1, 28] + list(b"may 5 pay-a and(pay 1or give") + [5, 0, 0]
            + [0, 1, 4, 1, 31] + list(b"may 5 pay-a and(pay 1or pay(2))") + [1, 1, 9, 0] + [2, 0, 0] + [3, 2, 1, 1, 0]
            + [4, 1, 0, 0] + [6, 0, 0] + [7, 0, 0] + [5, 0, 0] + [7, 0, 0] + [5, 0, 0]
        )
        self.assertEqual(answers(line), [1, -34, 1, -38, 1, -9, 3, 1, 1, 97, 2, 4, 0, 5, 2, 1, 0, 0, 0, 2, 0, 2]
                         + [2, 0, -9, 3, 1, 4, -7, 1, 2, 13, 12] + list(b"may 5 pay -a") + [1, 1]
                         + [34, 33] + list(b"may 5 pay -a and (pay 1 or pay 2)"))

    def test_a_line_of_60_calls(self):
        line = opening("times 2: at 30 pay a", 3)
        expected = [3, 1, 1, 97]
        for turn in range(59):
            line += day(turn)
            expected += [2, 3 + turn, 54 if turn == 27 else 0]
        self.assertEqual(answers(line), expected)

    def test_60_times_the_longest_text(self):
        text = "(" * 97 + "pay 1 " + ")" * 97
        self.assertEqual(len(text), 200)
        self.assertEqual(answers(opening(text, 1000000) * 60), [1, 0] * 60)

    def test_what_is_handed_in_stays(self):
        for line in (
            opening("pay a or pay b", 3) + day(1, 2) + waits() + choose(0, 1) + day(3, 4),
            opening("pay a or") + choose(0, 3) + day(1) + waits(),
            opening("") * 60,
        ):
            copy = list(line)
            answers(line)
            self.assertEqual(line, copy)

    def test_nothing_is_kept_from_one_time_to_the_next(self):
        line = opening("pay a or pay b", 3) + day(1, 2) + waits()
        given = answers(line)
        self.assertEqual(answers(day(1, 2) + waits() + choose(0, 0)), [1, -9, 1, -9, 1, -9])
        self.assertEqual(answers(line), given)
        given.clear()
        self.assertEqual(answers(line), [5, 2, 1, 97, 1, 98, 2, 3, 0, 3, 1, 0, 0])

    def test_answers_are_whole_numbers_only(self):
        line = opening("if a < b & not a = b then (pay a or pay b) otherwise may 3 pay 1") + day(1, 2) + waits()
        for number in answers(line + choose(0, 0) + day(2, 1) + waits()):
            self.assertIs(type(number), int)

    def test_a_call_that_there_is_not(self):
        with self.assertRaises(UnknownCall):
            answers([9, 0, 0])


if __name__ == "__main__":
    unittest.main()

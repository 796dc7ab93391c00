import unittest

from tests.lines import choose, day, last, opening, told, waits


class ChooseTest(unittest.TestCase):
    def chosen(self, text, *numbers, number=0, on=0):
        """What the first and what the second pays."""
        answers = [last(opening(text, on), day(*numbers), choose(number, which)) for which in (0, 1)]
        self.assertEqual([answer[0] for answer in answers], [0, 0])
        return [answer[1] for answer in answers]

    def test_the_first_and_the_second(self):
        self.assertEqual(self.chosen("pay 3 or pay 4"), [3, 4])
        self.assertEqual(self.chosen("pay 3 else pay 4"), [3, 4])
        self.assertEqual(self.chosen("pay -3 or nothing"), [-3, 0])
        self.assertEqual(self.chosen("pay 1 and pay 2 or (pay 4 and pay 8)"), [3, 12])
        self.assertEqual(self.chosen("pay 1 and (pay 2 or pay 4)"), [2, 4])

    def test_from_the_left(self):
        self.assertEqual(self.chosen("pay 1 or pay 2 else pay 3"), [0, 3])
        given = told(opening("pay 1 or pay 2 else pay 3"), day(), choose(0, 0), waits(), choose(0, 1), waits())
        self.assertEqual(given[2:], [[0, 0], [1, 0, 0], [0, 2], [0]])
        given = told(opening("pay 1 or (pay 2 else pay 3)"), day(), choose(0, 1), waits(), choose(0, 0), waits())
        self.assertEqual(given[2:], [[0, 0], [1, 0, 1], [0, 2], [0]])

    def test_the_one_that_is_told(self):
        text = "(pay 1 or pay 2) and may 9 pay 5 and (pay 4 else pay 8) and give (pay 16 or pay 32)"
        self.assertEqual(self.chosen(text, number=0), [1, 2])
        self.assertEqual(self.chosen(text, number=2), [4, 8])
        self.assertEqual(self.chosen(text, number=3), [-16, -32])
        given = told(
            opening(text), day(), choose(2, 1), waits(), choose(2, 0), waits(), choose(0, 0), waits(), day(),
        )
        self.assertEqual(given[2:], [
            [0, 8], [3, 0, 0, 1, 0, 0, 1], [0, -16], [2, 0, 0, 1, 0], [0, 1], [1, 1, 0], [1, 0],
        ])

    def test_within_times(self):
        self.assertEqual(self.chosen("times 3: (pay 4 or pay 5)"), [12, 15])
        self.assertEqual(self.chosen("times -3: (pay 4 or pay 5)"), [-12, -15])
        self.assertEqual(self.chosen("times 2: (pay 1 and times a: (pay 4 or pay a))", 10), [80, 200])

    def test_within_give(self):
        self.assertEqual(self.chosen("give (pay 4 or pay 5)"), [-4, -5])
        self.assertEqual(self.chosen("give give (pay 4 or pay 5)"), [4, 5])
        self.assertEqual(self.chosen("give times -3: (give pay 4 or pay 5)"), [-12, 15])

    def test_within_stop(self):
        self.assertEqual(self.chosen("stop a > 3: (pay 4 or pay a)", 3), [4, 3])
        text = "stop a > 3: (at 1 pay 4 or at 2 pay 5)"
        self.assertEqual(told(opening(text), day(0), choose(0, 0), day(1))[2:], [[0, 0], [1, 4]])
        self.assertEqual(told(opening(text), day(0), choose(0, 0), day(4), day(0))[2:], [[0, 0], [1, 0], [2, 0]])

    def test_as_it_is_left_on_this_day(self):
        self.assertEqual(self.chosen("at 4 pay 1 or at 5 pay 2", on=4), [1, 0])
        given = told(opening("at 4 pay 1 or at 5 pay a", 4), day(7), choose(0, 1), day(8), day(9))
        self.assertEqual(given[2:], [[0, 0], [5, 8], [6, 0]])
        given = told(opening("may 4 pay 1 or may 3 pay 2", 4), day(), choose(0, 0), waits(), day(), waits())
        self.assertEqual(given[2:], [[0, 0], [1, 1, 0], [5, 0], [0]])
        given = told(opening("may 4 pay 1 or may 3 pay 2", 4), day(), choose(0, 1), waits())
        self.assertEqual(given[2:], [[0, 0], [0]])

    def test_with_what_is_observed_on_this_day(self):
        self.assertEqual(self.chosen("pay a or pay 2 * a", 7), [7, 14])
        given = told(opening("at 1 (pay a or if a > 3 then pay 1 otherwise pay 2)"), day(9), day(3), choose(0, 1))
        self.assertEqual(given[-1], [0, 2])
        given = told(opening("nothing or times a: at 1 pay a"), day(5), choose(0, 1), day(7), day(9))
        self.assertEqual(given[2:], [[0, 0], [1, 35], [2, 0]])
        self.assertEqual(self.chosen("nothing or stop a > 3: pay 1", 4), [0, 0])
        self.assertEqual(self.chosen("nothing or stop a > 3: pay 1", 3), [0, 1])

    def test_what_else_is_left_stays_and_pays_no_more(self):
        text = "pay 1 and times a: (pay 1 and at 1 pay 10) and stop a > 9: at 1 pay 100 and (pay 3 or pay 4)"
        given = told(opening(text), day(5), choose(0, 0), waits(), day(2), day(0))
        self.assertEqual(given[1:], [[0, 6], [0, 3], [0], [1, 150], [2, 0]])

    def test_what_waits_behind_it(self):
        text = "give ((pay 1 else may 3 pay 2) or (may 2 pay 1 and (pay 4 or pay 5)))"
        given = told(opening(text), day(), waits(), choose(0, 0), waits(), choose(0, 1), waits())
        self.assertEqual(given[2:], [[1, 0, 1], [0, 0], [1, 0, 0], [0, 0], [1, 1, 1]])
        given = told(opening(text), day(), choose(0, 1), waits(), choose(1, 1), waits())
        self.assertEqual(given[2:], [[0, 0], [2, 1, 1, 0, 1], [0, -5], [1, 1, 1]])

    def test_several_on_one_day_then_the_next_day(self):
        text = "(pay 1 or pay 2) and (pay 3 or pay 4)"
        given = told(opening(text), day(), day(), choose(1, 0), day(), choose(0, 1), day())
        self.assertEqual(given[2:], [[-6], [0, 3], [-6], [0, 2], [1, 0]])


class RefusedChooseTest(unittest.TestCase):
    def test_which_is_above_1(self):
        self.assertEqual(told(choose(0, 2), choose(0, 1000000)), [[-1], [-1]])
        self.assertEqual(told(opening("pay 1 or pay 2"), choose(0, 2), day(), choose(0, 2))[1:], [[-1], [0, 0], [-1]])
        self.assertEqual(last(opening("nothing"), day(), choose(5, 2)), [-1])
        self.assertEqual(last(opening("may 3 nothing"), day(), choose(0, 2)), [-1])

    def test_no_agreement(self):
        self.assertEqual(told(choose(0, 0), choose(1000000, 1)), [[-9], [-9]])

    def test_no_day(self):
        self.assertEqual(told(opening("pay 1 or pay 2"), choose(0, 0), choose(9, 1))[1:], [[-4], [-4]])
        self.assertEqual(last(opening("nothing"), choose(0, 0)), [-4])

    def test_none_waits_there(self):
        given = told(opening("(pay 1 or pay 2) and (pay 3 or pay 4)"), day(), choose(2, 0), choose(1000000, 1))
        self.assertEqual(given[2:], [[-2], [-2]])
        self.assertEqual(last(opening("nothing"), day(), choose(0, 0)), [-2])
        self.assertEqual(last(opening("at 3 (pay 1 or pay 2)"), day(), choose(0, 0)), [-2])
        given = told(opening("pay 1 or pay 2"), day(), choose(0, 1), choose(0, 1))
        self.assertEqual(given[2:], [[0, 2], [-2]])

    def test_it_may_only_be_begun(self):
        given = told(opening("may 3 pay 1 and (pay 3 or pay 4)"), day(), choose(0, 0), choose(0, 1), choose(1, 0))
        self.assertEqual(given[2:], [[-3], [-3], [0, 3]])

    def test_all_is_as_it_was(self):
        given = told(
            opening("times 2: (may 3 pay 1 and (pay 3 or pay 4))", 2), choose(0, 0), day(), choose(0, 2),
            choose(2, 0), choose(0, 1), waits(), day(), choose(1, 1), waits(), day(),
        )
        self.assertEqual(given[1:], [
            [-4], [2, 0], [-1], [-2], [-3], [2, 1, 0, 0, 0], [-6], [0, 8], [1, 1, 0], [3, 0],
        ])


if __name__ == "__main__":
    unittest.main()

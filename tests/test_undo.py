import unittest

from tests.lines import begin, choose, day, last, left, opening, paid, text_told, told, undo, waits

# What asks for all that can be told without changing it.
ASKED = [waits(), left(), paid()]


class UndoTest(unittest.TestCase):
    def taken_back(self, before, call):
        """All that is told is the same behind a call that is taken back as it was ahead of it."""
        given = told(*before, *ASKED, call, undo(), *ASKED)
        asked = len(ASKED)
        self.assertEqual(given[len(before):len(before) + asked], given[-asked:])
        self.assertNotEqual(told(*before, call, *ASKED)[-asked:], given[-asked:])
        self.assertGreaterEqual(given[-asked - 2][0], 0)
        return given[-asked - 1]

    def test_a_day(self):
        start = opening("times a: (pay a and at 6 pay b) and may 6 nothing and may 7 pay b", 5)
        self.assertEqual(self.taken_back([start], day(1, 2)), [0])
        self.assertEqual(self.taken_back([start, day(1, 2)], day(3, 4)), [1])
        self.assertEqual(self.taken_back([start, day(1, 2), day(3, 4)], day(0, 0)), [2])

    def test_a_choose(self):
        start = opening("give (pay 1 or pay 2) and (pay 3 else at 2 pay 4)")
        self.assertEqual(self.taken_back([start, day()], choose(0, 0)), [1])
        self.assertEqual(self.taken_back([start, day()], choose(1, 1)), [1])
        self.assertEqual(self.taken_back([start, day(), choose(0, 1)], choose(0, 1)), [2])

    def test_a_begin(self):
        start = opening("give may 3 pay 1 and may 5 at 2 pay 4")
        self.assertEqual(self.taken_back([start, day()], begin(0)), [1])
        self.assertEqual(self.taken_back([start, day(), day()], begin(1)), [2])
        self.assertEqual(self.taken_back([start, day(), begin(0), day()], begin(0)), [3])

    def test_several_back_to_behind_open(self):
        text = "pay a and may 4 pay 10 and (pay 1 or at 4 pay 2)"
        given = told(
            opening(text, 3), day(5), choose(1, 1), begin(0), day(6), left(), paid(),
            undo(), left(), paid(), undo(), left(), paid(), undo(), left(), paid(), undo(), left(), paid(),
            waits(), undo(), left(),
        )
        self.assertEqual(given[1:], [
            [3, 5], [0, 0], [0, 10], [4, 2], text_told("nothing"), [2, 3, 15, 4, 2],
            [3], text_told("at 4 pay 2"), [1, 3, 15],
            [2], text_told("may 4 pay 10 and at 4 pay 2"), [1, 3, 5],
            [1], text_told("may 4 pay 10 and (pay 1 or at 4 pay 2)"), [1, 3, 5],
            [0], text_told(text), [0],
            [-4], [-7], text_told(text),
        ])

    def test_the_day_that_was_taken_back_comes_again(self):
        text = "pay a and at 4 pay b"
        given = told(opening(text, 3), day(5, 6), day(7, 8), undo(), day(9, 10), undo(), undo(), day(11, 12), paid())
        self.assertEqual(given[1:], [
            [3, 5], [4, 8], [1], [4, 10], [1], [0], [3, 11], [1, 3, 11],
        ])

    def test_what_was_observed_comes_back(self):
        text = "may 9 pay a and (pay a or pay 2 * a)"
        given = told(opening(text), day(5), choose(1, 0), day(7), undo(), begin(0), undo(), undo(), choose(1, 1))
        self.assertEqual(given[1:], [[0, 0], [0, 5], [1, 0], [2], [0, 5], [2], [1], [0, 10]])

    def test_a_choice_waits_again(self):
        given = told(opening("pay 1 or pay 2"), day(), choose(0, 0), undo(), day(), waits(), choose(0, 1), day())
        self.assertEqual(given[2:], [[0, 1], [1], [-6], [1, 0, 0], [0, 2], [1, 0]])

    def test_a_choice_ahead_of_the_first_day_does_not_hinder_it_again(self):
        given = told(opening("pay 1 or pay 2", 6), day(), undo(), choose(0, 0), begin(0), day(), choose(0, 0))
        self.assertEqual(given[1:], [[6, 0], [0], [-4], [-4], [6, 0], [0, 1]])

    def test_it_can_not_be_taken_back_itself(self):
        given = told(opening("at 1 pay 1"), day(), day(), undo(), undo(), undo(), paid(), day(), undo(), undo())
        self.assertEqual(given[1:], [[0, 0], [1, 1], [1], [0], [-7], [0], [0, 0], [0], [-7]])


class KeptTest(unittest.TestCase):
    def test_32_are_kept(self):
        given = told(opening("nothing"), *[day()] * 32, *[undo()] * 27)
        self.assertEqual(given[33:], [[kept] for kept in range(31, 4, -1)])

    def test_each_can_be_taken_back(self):
        given = told(opening("at 28 pay 7"), *[day()] * 29, *[undo()] * 30)
        self.assertEqual(given[30:], [[kept] for kept in range(28, -1, -1)] + [[-7]])
        line = [opening("nothing", 3)] + [day()] * 20 + [undo()] * 3 + [day()] * 3 + [undo()] * 20
        self.assertEqual(told(*line, undo(), paid())[-4:], [[1], [0], [-7], [0]])

    def test_the_33rd_is_not_kept(self):
        line = [opening("nothing", 100)] + [day()] * 33
        self.assertEqual(told(*line, undo())[-1], [31])
        self.assertEqual(told(*line, undo(), undo(), day(), day(), day(), undo())[-6:], [
            [31], [30], [131, 0], [132, 0], [133, 0], [31],
        ])
        long_line = [opening("nothing", 100)] + [day()] * 40
        self.assertEqual(told(*long_line, undo())[-1], [31])

    def test_days_chooses_and_begins_count_alike(self):
        text = "(" + " and ".join(["may99pay1"] * 8) + ")and(" + " and ".join(["(pay1 or pay2)"] * 5) + ")"
        moves = [day()] + [begin(0)] * 8 + [choose(0, 1)] * 5 + [day()] * 12
        self.assertEqual(len(moves), 26)
        given = told(opening(text), *moves, *[undo()] * 27)
        self.assertEqual(given[27:], [[kept] for kept in range(25, -1, -1)] + [[-7]])
        given = told(opening(text), *moves, *[day()] * 7, *[undo()] * 20)
        self.assertEqual(given[34:], [[kept] for kept in range(31, 11, -1)])

    def test_behind_more_than_32_it_comes_back_to_as_it_was(self):
        given = told(opening("nothing"), *[day()] * 33, *[undo()] * 25, paid())
        self.assertEqual(given[-2:], [[7], [8] + [number for which in range(8) for number in (which, 0)]])


class RefusedUndoTest(unittest.TestCase):
    def test_no_agreement(self):
        self.assertEqual(told(undo(), opening("pay"), undo(), left()), [[-7], [-13], [-7], [-9]])

    def test_behind_open_nothing_can_be_taken_back(self):
        self.assertEqual(told(opening("nothing"), undo()), [[0], [-7]])
        given = told(opening("pay 1"), day(), day(), opening("pay 2", 8), undo(), left(), paid(), day())
        self.assertEqual(given[3:], [[0], [-7], text_told("pay 2"), [0], [8, 2]])

    def test_a_refused_open_takes_nothing_away(self):
        given = told(opening("may 5 pay 1", 2), day(), opening("pay"), opening("pay a+b+c+d+e"), undo(), undo(), left())
        self.assertEqual(given[1:], [[2, 0], [-13], [-1], [0], [-7], text_told("may 5 pay 1")])

    def test_refusals_and_what_changes_nothing_leave_nothing_to_take_back(self):
        given = told(
            opening("pay 1 or may 3 pay 2"), begin(0), choose(0, 0), day(1), waits(), left(), paid(), undo(), day(),
            day(), day(1), choose(0, 2), choose(1, 0), begin(0), waits(), left(), paid(), undo(), undo(),
        )
        self.assertEqual(given[-2:], [[0], [-7]])
        self.assertEqual(given[7], [-7])

    def test_a_refused_undo_changes_nothing(self):
        given = told(opening("pay 1", 4), undo(), left(), paid(), day(), undo(), undo(), left(), paid(), day())
        self.assertEqual(given[1:], [
            [-7], text_told("pay 1"), [0], [4, 1], [0], [-7], text_told("pay 1"), [0], [4, 1],
        ])
        self.assertEqual(last(opening("pay 1", 4), day(), undo(), undo(), undo()), [-7])


if __name__ == "__main__":
    unittest.main()

import unittest

from tests.lines import begin, choose, day, last, left, opening, paid, text_told, told, undo, waits


class BeginTest(unittest.TestCase):
    def begun(self, text, *numbers, number=0, on=0):
        """What is paid by what is begun on the first day."""
        answer = last(opening(text, on), day(*numbers), begin(number))
        self.assertEqual((answer[0], len(answer)), (0, 2))
        return answer[1]

    def test_what_is_begun_is_paid(self):
        self.assertEqual(self.begun("may 5 pay 7"), 7)
        self.assertEqual(self.begun("may 5 pay -7"), -7)
        self.assertEqual(self.begun("may 5 nothing"), 0)
        self.assertEqual(self.begun("may 5 (pay 7 and pay 8)"), 15)
        self.assertEqual(self.begun("pay 100 and may 5 pay 7 and pay 100"), 7)

    def test_ahead_of_on_and_behind_the_last_day(self):
        self.assertEqual([self.begun("may 5 pay 7", on=on) for on in (0, 1, 4, 5)], [7, 7, 7, 7])
        self.assertEqual(last(opening("may 5 pay 7", 6), day(), begin(0)), [-2])
        self.assertEqual(last(opening("may 5 pay 7", 4), day(), day(), begin(0)), [0, 7])
        self.assertEqual(last(opening("may 5 pay 7", 4), day(), day(), day(), begin(0)), [-2])
        self.assertEqual(self.begun("may 0 pay 7"), 7)
        self.assertEqual(self.begun("may 9999999 pay 7", on=1000000), 7)

    def test_just_once(self):
        given = told(opening("may 5 pay 7"), day(), begin(0), begin(0), waits(), day(), begin(0), left())
        self.assertEqual(given[2:], [[0, 7], [-2], [0], [1, 0], [-2], text_told("nothing")])

    def test_within_times(self):
        self.assertEqual(self.begun("times 3: may 5 pay 7"), 21)
        self.assertEqual(self.begun("times -3: may 5 pay 7"), -21)
        self.assertEqual(self.begun("times 2: (pay 1 and times a: may 4 pay a)", 10), 200)
        self.assertEqual(last(opening("times a: may 9 pay a"), day(3), day(50), begin(0)), [0, 150])

    def test_within_give(self):
        self.assertEqual(self.begun("give may 5 pay 7"), -7)
        self.assertEqual(self.begun("give give may 5 pay 7"), 7)
        self.assertEqual(self.begun("give times -3: (give may 3 pay 4 and may 5 pay 5)"), -12)
        self.assertEqual(self.begun("give times -3: (give may 3 pay 4 and may 5 pay 5)", number=1), 15)
        self.assertEqual(self.begun("may 5 give pay 7"), -7)
        self.assertEqual(self.begun("give may 5 give pay 7"), 7)

    def test_within_stop(self):
        self.assertEqual(self.begun("stop a > 3: may 5 pay a", 3), 3)
        text = "stop a > 3: may 5 at 2 pay 9"
        self.assertEqual(told(opening(text), day(0), begin(0), day(1), day(2))[2:], [[0, 0], [1, 0], [2, 9]])
        self.assertEqual(told(opening(text), day(0), begin(0), day(4), day(2))[2:], [[0, 0], [1, 0], [2, 0]])

    def test_as_it_is_left_on_this_day(self):
        given = told(opening("may 9 at 5 pay a", 4), day(1), begin(0), left(), day(2), left())
        self.assertEqual(given[2:], [[0, 0], text_told("at 5 pay a"), [5, 2], text_told("nothing")])
        self.assertEqual(self.begun("may 9 at 5 pay a", 8, on=5), 8)
        given = told(opening("may 9 if a > 3 then pay a otherwise at 5 pay -1"), day(9), day(3), begin(0), left())
        self.assertEqual(given[3:], [[0, 0], text_told("at 5 pay -1")])
        given = told(opening("may 9 times a: (pay 1 and at 5 pay 1)"), day(9), day(3), begin(0), left())
        self.assertEqual(given[3:], [[0, 3], text_told("times 3: at 5 pay 1")])
        given = told(opening("may 9 stop a > 3: pay 1"), day(1), day(4), begin(0), left())
        self.assertEqual(given[3:], [[0, 0], text_told("nothing")])
        given = told(opening("may 9 times a: pay 1 and may 8 nothing"), day(0), begin(0), left())
        self.assertEqual(given[2:], [[0, 0], text_told("may 8 nothing")])

    def test_what_waits_behind_it(self):
        given = told(opening("may 9 (pay 1 or pay 2)"), day(), begin(0), waits(), day(), choose(0, 1), waits())
        self.assertEqual(given[2:], [[0, 0], [1, 0, 0], [-6], [0, 2], [0]])
        given = told(opening("give may 9 may 8 pay 2"), day(), begin(0), waits(), left(), begin(0), waits(), left())
        self.assertEqual(given[2:], [
            [0, 0], [1, 1, 1], text_told("give may 8 pay 2"), [0, -2], [0], text_told("nothing"),
        ])
        given = told(opening("may 9 may 0 pay 2"), day(), begin(0), waits(), begin(0), day())
        self.assertEqual(given[2:], [[0, 0], [1, 1, 0], [0, 2], [1, 0]])
        given = told(opening("may 9 may 0 pay 2"), day(), day(), begin(0), waits(), left())
        self.assertEqual(given[3:], [[0, 0], [0], text_told("nothing")])

    def test_the_one_that_is_told(self):
        text = "may 9 pay 1 and (pay 2 or pay 4) and give (may 9 pay 8 and may 9 pay 16)"
        self.assertEqual([self.begun(text, number=number) for number in (0, 2, 3)], [1, -8, -16])
        given = told(opening(text), day(), begin(2), left(), begin(2), left(), begin(0), left(), choose(0, 1), left())
        self.assertEqual(given[2:], [
            [0, -8], text_told("may 9 pay 1 and (pay 2 or pay 4) and give may 9 pay 16"),
            [0, -16], text_told("may 9 pay 1 and (pay 2 or pay 4)"),
            [0, 1], text_told("pay 2 or pay 4"),
            [0, 4], text_told("nothing"),
        ])

    def test_what_else_is_left_stays_and_pays_no_more(self):
        text = "pay 1 and times a: (pay 1 and at 1 pay 10) and stop a > 9: at 1 pay 100 and may 3 pay a"
        given = told(opening(text), day(5), begin(0), left(), day(2), day(0))
        self.assertEqual(given[1:], [
            [0, 6], [0, 5], text_told("times 5: at 1 pay 10 and stop a > 9: at 1 pay 100"), [1, 150], [2, 0],
        ])

    def test_a_may_within_a_choice_that_was_made(self):
        given = told(opening("may 9 pay 1 or pay 2"), day(), begin(0), choose(0, 0), begin(0), left())
        self.assertEqual(given[2:], [[-3], [0, 0], [0, 1], text_told("nothing")])


class RefusedBeginTest(unittest.TestCase):
    def test_no_agreement(self):
        self.assertEqual(told(begin(0), begin(1000000), opening("may"), begin(0)), [[-9], [-9], [-13], [-9]])

    def test_no_day(self):
        given = told(opening("may 5 pay 1"), begin(0), begin(9), day(), begin(0), opening("may 5 pay 1"), begin(0))
        self.assertEqual(given[1:], [[-4], [-4], [0, 0], [0, 1], [0], [-4]])
        self.assertEqual(last(opening("pay 1 or pay 2"), begin(0)), [-4])

    def test_none_waits_there(self):
        given = told(opening("may 3 pay 1 and may 3 pay 2"), day(), begin(2), begin(1000000))
        self.assertEqual(given[2:], [[-2], [-2]])
        self.assertEqual(last(opening("nothing"), day(), begin(0)), [-2])
        self.assertEqual(last(opening("at 3 may 5 pay 2"), day(), begin(0)), [-2])
        self.assertEqual(last(opening("pay 1 or pay 2"), day(), begin(1)), [-2])
        self.assertEqual(last(opening("times 0: may 3 pay 1"), day(), begin(0)), [-2])

    def test_it_is_a_choice(self):
        given = told(opening("(pay 1 else pay 2) and may 3 pay 1 and (pay 1 or pay 2)"), day(), begin(0), begin(2))
        self.assertEqual(given[2:], [[-3], [-3]])

    def test_all_is_as_it_was(self):
        text = "times 2: (may 3 pay 1 and (pay 3 or pay 4))"
        given = told(
            opening(text, 2), begin(0), left(), day(), begin(1), begin(2), left(), waits(), paid(), begin(0), paid(),
            begin(0), undo(), undo(), undo(),
        )
        self.assertEqual(given[1:], [
            [-4], text_told(text), [2, 0], [-3], [-2], text_told(text), [2, 1, 0, 0, 0], [1, 2, 0], [0, 2],
            [1, 2, 2], [-3], [1], [0], [-7],
        ])


if __name__ == "__main__":
    unittest.main()

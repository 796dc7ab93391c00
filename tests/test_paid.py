import unittest

from tests.lines import begin, choose, day, last, opening, paid, told, undo


class PaidTest(unittest.TestCase):
    def test_ahead_of_the_first_day(self):
        self.assertEqual(last(opening("pay 3"), paid()), [0])
        self.assertEqual(last(opening("pay a"), day(), paid()), [0])

    def test_behind_several_days(self):
        text = "pay 3 and at 8 pay -5 and at 9 give pay a"
        given = told(opening(text, 7), day(1), paid(), day(2), paid(), day(3), paid(), day(4), paid())
        self.assertEqual(given[2::2], [
            [1, 7, 3], [2, 7, 3, 8, -5], [3, 7, 3, 8, -5, 9, -3], [4, 7, 3, 8, -5, 9, -3, 10, 0],
        ])

    def test_days_on_which_nothing_is_paid(self):
        self.assertEqual(last(opening("nothing", 1000000), day(), day(), paid()), [2, 1000000, 0, 1000001, 0])

    def test_what_choose_and_begin_paid_is_added_to_the_day(self):
        text = "pay 1 and (pay 2 or pay 4) and may 1 pay 8 and may 1 pay 16 and at 1 pay 32"
        given = told(
            opening(text), day(), paid(), choose(0, 1), paid(), begin(0), paid(), day(), paid(), begin(0), paid(),
        )
        self.assertEqual(given[2::2], [
            [1, 0, 1], [1, 0, 5], [1, 0, 13], [2, 0, 13, 1, 32], [2, 0, 13, 1, 48],
        ])

    def test_below_0_and_back_to_0(self):
        text = "give pay 7 and give (pay 2 or nothing) and may 3 pay 9 and may 3 pay -1"
        given = told(opening(text), day(), paid(), choose(0, 0), paid(), begin(0), paid(), begin(0), paid())
        self.assertEqual(given[2::2], [[1, 0, -7], [1, 0, -9], [1, 0, 0], [1, 0, -1]])

    def test_large_payments(self):
        for sign, amount in (("", 10 ** 294), ("give ", -10 ** 294)):
            text = sign + "(pay " + "*".join("a" * 49) + " and may 9 pay 1)"
            small = 1 if amount > 0 else -1
            given = told(opening(text), day(1000000), paid(), begin(0), paid())
            self.assertEqual(given[1:], [[0, amount], [1, 0, amount], [0, small], [1, 0, amount + small]])

    def test_payments_next_to_the_largest(self):
        product = "*".join("a" * 49)
        for text, amount in (
            ("pay 999999*" + product, 999999 * 10 ** 294), ("give pay 999999*" + product, -999999 * 10 ** 294),
            ("times " + product + ":may 3 pay 999999", 999999 * 10 ** 294),
        ):
            line = [opening(text, 3), day(1000000)]
            if "may" in text:
                line.append(begin(0))
            given = told(*line, paid(), undo(), paid())
            self.assertEqual(given[len(line) - 1][1], amount)
            self.assertEqual(given[len(line)], [1, 3, amount])
            self.assertEqual(given[-1], [1, 3, 0] if "may" in text else [0])

    def test_refusals_pay_nothing(self):
        given = told(
            opening("pay 1 and (pay 2 or pay 4)"), day(), day(), choose(0, 2), choose(1, 0), begin(0), day(1),
            opening("pay"), paid(),
        )
        self.assertEqual(given[2:], [[-6], [-1], [-2], [-3], [-1], [-13], [1, 0, 1]])

    def test_open_begins_anew(self):
        given = told(opening("pay 1"), day(), paid(), opening("pay 2", 5), paid(), day(), paid())
        self.assertEqual(given[2:], [[1, 0, 1], [0], [0], [5, 2], [1, 5, 2]])

    def test_undo_takes_it_back(self):
        given = told(opening("pay 1 and may 5 pay 2"), day(), begin(0), undo(), paid(), undo(), paid())
        self.assertEqual(given[3:], [[1], [1, 0, 1], [0], [0]])

    def test_it_changes_nothing(self):
        given = told(opening("may 3 pay 1"), paid(), day(), paid(), paid(), begin(0), paid(), undo(), paid(), undo())
        self.assertEqual(given[1:], [[0], [0, 0], [1, 0, 0], [1, 0, 0], [0, 1], [1, 0, 1], [1], [1, 0, 0], [0]])

    def test_no_agreement(self):
        self.assertEqual(told(paid(), opening("pay"), paid(), undo(), paid()), [[-9], [-13], [-9], [-7], [-9]])


if __name__ == "__main__":
    unittest.main()

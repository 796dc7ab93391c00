import unittest

from tests.lines import choose, day, last, opening, told, waits


def paid(text, *numbers, on=0):
    """What is paid by the first day, which is day on."""
    which, amount = last(opening(text, on), day(*numbers))
    assert which == on
    return amount


def paid_each_day(text, days, on=0):
    answers = told(opening(text, on), *[day(*numbers) for numbers in days])[1:]
    assert [answer[0] for answer in answers] == list(range(on, on + len(days)))
    return [answer[1] for answer in answers]


class ExpressionTest(unittest.TestCase):
    def test_numbers_and_names(self):
        self.assertEqual(paid("pay 0"), 0)
        self.assertEqual(paid("pay 9999999"), 9999999)
        self.assertEqual(paid("pay a", 1000000), 1000000)
        self.assertEqual(paid("pay a", -1000000), -1000000)
        self.assertEqual(paid("pay b - 10 * a", 7, 3), -23)

    def test_signs_go_from_the_left(self):
        self.assertEqual(paid("pay 10 - 3 - 2"), 5)
        self.assertEqual(paid("pay 10 - 3 + 2"), 9)
        self.assertEqual(paid("pay 10 - (3 + 2)"), 5)
        self.assertEqual(paid("pay 2 + 3 * 4"), 14)
        self.assertEqual(paid("pay (2 + 3) * 4"), 20)
        self.assertEqual(paid("pay 2 * 3 - 4 * 5"), -14)

    def test_minus_ahead_of_one(self):
        self.assertEqual(paid("pay -3"), -3)
        self.assertEqual(paid("pay --3"), 3)
        self.assertEqual(paid("pay 2 - -3"), 5)
        self.assertEqual(paid("pay -3 + 4"), 1)
        self.assertEqual(paid("pay -(3 + 4)"), -7)
        self.assertEqual(paid("pay -2 * -3"), 6)

    def test_max_and_min(self):
        self.assertEqual(paid("pay max(3, 4)"), 4)
        self.assertEqual(paid("pay max(4, 3)"), 4)
        self.assertEqual(paid("pay min(3, 4)"), 3)
        self.assertEqual(paid("pay min(4, 3)"), 3)
        self.assertEqual(paid("pay max(a, 0) - min(a, 0)", -8), 8)

    def test_large_numbers(self):
        self.assertEqual(paid("pay " + "*".join("a" * 49), 1000000), 10 ** 294)
        product = "*".join("a" * 45)
        self.assertEqual(paid("pay " + product + "-" + product + "+1", -1000000), 1)
        condition = product + "*" + product + ">0"
        self.assertEqual(paid("stop not " + condition + ":pay 7", -1000000), 7)


class ConditionTest(unittest.TestCase):
    def holds(self, condition, *numbers):
        return paid("if " + condition + " then pay 1 otherwise pay 0", *numbers) == 1

    def test_comparisons(self):
        self.assertEqual([self.holds("a < 3", a) for a in (2, 3, 4)], [True, False, False])
        self.assertEqual([self.holds("a = 3", a) for a in (2, 3, 4)], [False, True, False])
        self.assertEqual([self.holds("a > 3", a) for a in (2, 3, 4)], [False, False, True])
        self.assertTrue(self.holds("a + 1 = 2 * b", 3, 2))

    def test_not_and_or(self):
        sides = [(a, b) for a in (0, 1) for b in (0, 1)]
        self.assertEqual([self.holds("not a = 1", a) for a in (0, 1)], [True, False])
        self.assertEqual([self.holds("a=1 & b=1", *two) for two in sides], [False, False, False, True])
        self.assertEqual([self.holds("a=1 | b=1", *two) for two in sides], [False, True, True, True])

    def test_what_binds_closer(self):
        self.assertTrue(self.holds("1=1 | 1=1 & 1=2"))
        self.assertFalse(self.holds("[1=1 | 1=1] & 1=2"))
        self.assertTrue(self.holds("1=2 & 1=2 | 1=1"))
        self.assertFalse(self.holds("not 1=1 & 1=2"))
        self.assertTrue(self.holds("not [1=1 & 1=2]"))
        self.assertTrue(self.holds("not 1=2 | 1=1"))
        self.assertTrue(self.holds("not not 1=1"))


class PaidTest(unittest.TestCase):
    def test_nothing_and_pay(self):
        self.assertEqual(paid("nothing"), 0)
        self.assertEqual(paid_each_day("pay 5", [(), (), ()]), [5, 0, 0])

    def test_both(self):
        self.assertEqual(paid("pay 5 and pay 7 and pay 11"), 23)
        self.assertEqual(paid("nothing and pay 7 and nothing"), 7)
        self.assertEqual(paid("pay 5 and (pay 7 or pay 11)"), 5)

    def test_choices_pay_nothing_while_they_wait(self):
        self.assertEqual(paid("pay 5 or pay 7"), 0)
        self.assertEqual(paid("pay 5 else pay 7"), 0)

    def test_and_binds_closer_than_or_and_else(self):
        self.assertEqual(paid("pay 1 and pay 2 or pay 4"), 0)
        self.assertEqual(paid("pay 1 and (pay 2 or pay 4)"), 1)

    def test_if(self):
        text = "if a > 3 then pay a otherwise pay -1"
        self.assertEqual([paid(text, a) for a in (3, 4, -5)], [-1, 4, -1])
        text = "if a > 3 then (pay 1 and at 1 pay 10) otherwise at 1 pay 20"
        self.assertEqual(paid_each_day(text, [(4,), (0,), (4,)]), [1, 10, 0])
        self.assertEqual(paid_each_day(text, [(3,), (9,), (9,)]), [0, 20, 0])

    def test_give(self):
        self.assertEqual(paid("give pay 5"), -5)
        self.assertEqual(paid("give pay -5"), 5)
        self.assertEqual(paid("give give pay 5"), 5)
        self.assertEqual(paid("give pay 5 and pay 7"), 2)
        self.assertEqual(paid("give (pay 5 and pay 7)"), -12)
        self.assertEqual(paid_each_day("give at 1 pay a", [(3,), (4,), (5,)]), [0, -4, 0])

    def test_times(self):
        self.assertEqual(paid("times 3: pay 5"), 15)
        self.assertEqual(paid("times -3: pay 5"), -15)
        self.assertEqual(paid("times 0: pay 5"), 0)
        self.assertEqual(paid("times 2: times 3: give pay 5"), -30)
        self.assertEqual(paid("times 2: (pay 5 and pay 7) and pay 1"), 25)

    def test_times_keeps_what_it_came_to(self):
        text = "times a: at 2 pay a"
        self.assertEqual(paid_each_day(text, [(3,), (50,), (7,), (9,)]), [0, 0, 21, 0])
        self.assertEqual(paid_each_day(text, [(-3,), (50,), (7,), (9,)]), [0, 0, -21, 0])
        self.assertEqual(paid_each_day(text, [(0,), (50,), (7,), (9,)]), [0, 0, 0, 0])

    def test_times_is_reckoned_when_what_it_stands_in_comes(self):
        self.assertEqual(paid_each_day("at 1 times a: at 2 pay a", [(3,), (5,), (7,)]), [0, 0, 35])

    def test_stop(self):
        self.assertEqual(paid("stop a > 3: pay 5", 3), 5)
        self.assertEqual(paid("stop a > 3: pay 5", 4), 0)
        text = "stop a > 3: at 2 pay a"
        self.assertEqual(paid_each_day(text, [(1,), (2,), (3,), (0,)]), [0, 0, 3, 0])
        self.assertEqual(paid_each_day(text, [(4,), (2,), (3,)]), [0, 0, 0])
        self.assertEqual(paid_each_day(text, [(1,), (4,), (3,)]), [0, 0, 0])
        self.assertEqual(paid_each_day(text, [(1,), (2,), (4,), (0,)]), [0, 0, 0, 0])

    def test_each_within_the_others(self):
        self.assertEqual(paid("give times 3: stop 1 > 2: (pay 5 and if 1 < 2 then pay 1 otherwise pay 2)"), -18)
        self.assertEqual(paid("times 3: give at 0 stop 2 > 1: pay 5"), 0)
        self.assertEqual(paid("stop 1 = 2: give times -2: at 0 pay 5"), 10)


class AtAndMayTest(unittest.TestCase):
    def test_at_ahead_of_on_and_behind_its_day(self):
        self.assertEqual([paid("at 5 pay 7", on=on) for on in (0, 4, 5, 6, 1000000)], [0, 0, 7, 7, 7])
        self.assertEqual(paid_each_day("at 5 pay a", [(1,), (2,), (3,), (4,)], on=3), [0, 0, 3, 0])

    def test_at_within_at(self):
        self.assertEqual(paid_each_day("at 1 at 3 pay a", [(1,), (2,), (3,), (4,), (5,)]), [0, 0, 0, 4, 0])
        self.assertEqual(paid_each_day("at 3 at 1 pay a", [(1,), (2,), (3,), (4,), (5,)]), [0, 0, 0, 4, 0])

    def test_at_day_0(self):
        self.assertEqual(paid("at 0 pay 7"), 7)

    def test_may_ahead_of_on_and_behind_its_day(self):
        for on, waiting in ((0, [1, 1, 0]), (4, [1, 1, 0]), (5, [1, 1, 0]), (6, [0]), (1000000, [0])):
            self.assertEqual(told(opening("may 5 pay 7", on), day(), waits())[1:], [[on, 0], waiting])
        given = told(opening("may 1 pay 7"), day(), waits(), day(), waits(), day(), waits(), day())
        self.assertEqual(given[1:], [[0, 0], [1, 1, 0], [1, 0], [1, 1, 0], [2, 0], [0], [3, 0]])

    def test_which_day_it_is(self):
        given = told(opening("nothing", 1000000), day(), day(), opening("nothing", 3), day(), day())
        self.assertEqual(given, [[0], [1000000, 0], [1000001, 0], [0], [3, 0], [4, 0]])


class RefusedDayTest(unittest.TestCase):
    def test_no_agreement(self):
        self.assertEqual(told(day()), [[-9]])
        self.assertEqual(told(day(1, 2, 3), day(*range(10))), [[-9], [-9]])

    def test_not_as_many_numbers_as_names(self):
        given = told(opening("pay a + b"), day(), day(1), day(1, 2, 3), day(*range(10)), day(1, 2))
        self.assertEqual(given[1:], [[-1], [-1], [-1], [-1], [0, 3]])
        self.assertEqual(told(opening("nothing"), day(1), day())[1:], [[-1], [0, 0]])

    def test_names_that_are_gone_are_still_observed(self):
        given = told(opening("pay a and at 3 pay b"), day(1, 2), day(2), day(1, 2))
        self.assertEqual(given[1:], [[0, 1], [-1], [1, 0]])

    def test_a_choice_waits(self):
        for text in ("pay 1 or pay 2", "pay 1 else pay 2", "times 2: give (nothing or nothing)",
                     "may 4 nothing and stop 1>2: (nothing else nothing)"):
            self.assertEqual(told(opening(text), day(), day(), day())[1:], [[0, 0], [-6], [-6]])

    def test_a_choice_that_was_there_ahead_of_the_first_day_does_not_hinder(self):
        self.assertEqual(told(opening("pay 1 or pay 2", 3), day())[1:], [[3, 0]])

    def test_what_may_be_begun_or_does_not_wait_yet_does_not_hinder(self):
        for text in ("may 9 (pay 1 or pay 2)", "at 9 (pay 1 or pay 2)", "times 0: (pay 1 or pay 2)"):
            self.assertEqual(told(opening(text), day(), day(), day())[1:], [[0, 0], [1, 0], [2, 0]])

    def test_which_is_told_first(self):
        given = told(day(1), opening("pay a or pay 2"), day(1), day(), day(1, 2), day(1))
        self.assertEqual(given, [[-9], [1, 1, 97], [0, 0], [-1], [-1], [-6]])

    def test_all_is_as_it_was(self):
        given = told(
            opening("times 3: (pay a or pay 2)", 7), day(5), day(9), day(), waits(), choose(0, 0), day(), day(9),
        )
        self.assertEqual(given[1:], [[7, 0], [-6], [-1], [1, 0, 0], [0, 15], [-1], [8, 0]])


if __name__ == "__main__":
    unittest.main()

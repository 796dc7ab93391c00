import unittest

from tests.lines import choose, day, last, opening, told, waits

CHOICE = 0
MAY = 1
HOLDER = 0
OTHER = 1


class WaitsTest(unittest.TestCase):
    def waits(self, text, *expected, on=0):
        answer = [len(expected)] + [number for one in expected for number in one]
        self.assertEqual(last(opening(text, on), day(), waits()), answer, text)

    def test_none(self):
        self.waits("nothing")
        self.waits("pay 3 and give pay 4")

    def test_each_kind(self):
        self.waits("pay 1 or pay 2", (CHOICE, HOLDER))
        self.waits("pay 1 else pay 2", (CHOICE, OTHER))
        self.waits("may 3 pay 1", (MAY, HOLDER))

    def test_from_the_left(self):
        self.waits(
            "(nothing else nothing) and may 3 nothing and (nothing or nothing)",
            (CHOICE, OTHER), (MAY, HOLDER), (CHOICE, HOLDER),
        )
        self.waits(
            "may 1 pay 1 and ((pay 1 else pay 2) and give may 1 pay 3)",
            (MAY, HOLDER), (CHOICE, OTHER), (MAY, OTHER),
        )

    def test_within_give(self):
        self.waits("give (pay 1 or pay 2)", (CHOICE, OTHER))
        self.waits("give (pay 1 else pay 2)", (CHOICE, HOLDER))
        self.waits("give may 3 pay 1", (MAY, OTHER))

    def test_within_give_again(self):
        self.waits("give give (pay 1 or pay 2)", (CHOICE, HOLDER))
        self.waits("give give (pay 1 else pay 2)", (CHOICE, OTHER))
        self.waits("give give may 3 pay 1", (MAY, HOLDER))
        self.waits("give give give may 3 pay 1", (MAY, OTHER))
        self.waits(
            "give (may 3 pay 1 and give may 3 pay 1 and (pay 1 else pay 2)) and may 3 pay 1",
            (MAY, OTHER), (MAY, HOLDER), (CHOICE, HOLDER), (MAY, HOLDER),
        )

    def test_within_times_and_stop(self):
        self.waits("times 3: (pay 1 or pay 2)", (CHOICE, HOLDER))
        self.waits("times -3: (pay 1 or pay 2)", (CHOICE, HOLDER))
        self.waits("times -3: give may 2 nothing", (MAY, OTHER))
        self.waits("times 0: (pay 1 or pay 2)")
        self.waits("stop 1 > 2: (pay 1 else pay 2)", (CHOICE, OTHER))
        self.waits("stop 2 > 1: (pay 1 else pay 2)")

    def test_within_at(self):
        self.waits("at 5 (pay 1 or pay 2)")
        self.waits("at 5 may 9 pay 2")
        self.waits("at 5 (pay 1 or pay 2)", (CHOICE, HOLDER), on=5)
        self.waits("at 5 may 9 pay 2", (MAY, HOLDER), on=6)

    def test_within_or_and_else(self):
        self.waits("pay 1 or (pay 2 or pay 3)", (CHOICE, HOLDER))
        self.waits("pay 1 or pay 2 else pay 3", (CHOICE, OTHER))
        self.waits("pay 1 else pay 2 or pay 3", (CHOICE, HOLDER))
        self.waits("may 4 pay 1 or give may 4 pay 2", (CHOICE, HOLDER))
        self.waits("give (pay 1 and (pay 2 or pay 3)) else may 3 pay 1", (CHOICE, OTHER))

    def test_within_if(self):
        self.waits("if 1 < 2 then (pay 1 or pay 2) otherwise may 3 pay 1", (CHOICE, HOLDER))
        self.waits("if 2 < 1 then (pay 1 or pay 2) otherwise may 3 pay 1", (MAY, HOLDER))
        self.waits("at 5 if 1 < 2 then (pay 1 or pay 2) otherwise may 3 pay 1")
        self.waits("may 5 if 1 < 2 then (pay 1 or pay 2) otherwise may 3 pay 1", (MAY, HOLDER))

    def test_within_may(self):
        self.waits("may 5 (pay 1 or pay 2)", (MAY, HOLDER))
        self.waits("may 5 may 4 pay 1", (MAY, HOLDER))
        self.waits("may 5 give (pay 1 else may 3 pay 1)", (MAY, HOLDER))

    def test_as_the_days_go(self):
        given = told(
            opening("may 0 pay 1 and at 1 give may 2 pay 1 and at 2 (pay 1 else pay 2)"),
            day(), waits(), day(), waits(), day(), waits(), choose(1, 0), waits(), day(), waits(),
        )
        self.assertEqual([answer for answer in given[2::2]], [
            [1, MAY, HOLDER], [1, MAY, OTHER], [2, MAY, OTHER, CHOICE, OTHER], [1, MAY, OTHER], [0],
        ])

    def test_it_changes_nothing(self):
        given = told(opening("pay 1 or pay 2"), day(), waits(), waits(), choose(0, 0), waits(), waits())
        self.assertEqual(given[2:], [[1, 0, 0], [1, 0, 0], [0, 1], [0], [0]])


class RefusedWaitsTest(unittest.TestCase):
    def test_no_agreement(self):
        self.assertEqual(told(waits(), opening("pay"), waits()), [[-9], [-13], [-9]])

    def test_no_day(self):
        self.assertEqual(told(opening("pay 1 or pay 2"), waits()), [[0], [-4]])
        self.assertEqual(told(opening("pay a"), day(), waits(), day(1), waits())[1:], [[-1], [-4], [0, 1], [0]])

    def test_no_day_of_the_new_one(self):
        self.assertEqual(told(opening("nothing"), day(), waits(), opening("nothing"), waits())[2:], [[0], [0], [-4]])


if __name__ == "__main__":
    unittest.main()

import unittest

from dayagreement.days import choice_made, gone_through, waiting_in
from dayagreement.reading import agreement_of
from dayagreement.tokens import tokens_of


def steps(text):
    return agreement_of(tokens_of(list(text.encode())))


class WhatIsLeftTest(unittest.TestCase):
    def left(self, text, expected, on=0, **seen):
        left, amount = gone_through(steps(text), on, seen)
        self.assertEqual(left, steps(expected), text)
        self.assertEqual(gone_through(left, on, seen), (left, 0), text)

    def test_nothing_is_left(self):
        for text in (
            "nothing", "pay 3", "pay 1 and pay 2", "nothing and nothing", "give pay 1", "times 3: pay 1",
            "times 0: at 5 pay 1", "stop 1 < 2: at 5 pay 1", "stop 2 < 1: pay 1", "may 2 pay 1",
            "give times 2: stop 2 < 1: (pay 1 and at 3 nothing)", "if 1 < 2 then pay 1 otherwise at 5 pay 1",
        ):
            self.left(text, "nothing", on=3)

    def test_nothing_does_not_stand_beside_the_other(self):
        self.left("pay 1 and at 5 pay 2", "at 5 pay 2")
        self.left("at 5 pay 2 and pay 1", "at 5 pay 2")
        self.left("pay 1 and at 5 pay 2 and pay 3 and may 4 pay 4", "at 5 pay 2 and may 4 pay 4")

    def test_what_stays_as_it_is(self):
        for text in (
            "pay a or pay 2 and nothing", "nothing and pay a else pay 2", "at 5 (nothing and pay 1)",
            "may 3 (nothing and times 0: pay a)", "at 4 if a < 3 then nothing otherwise give nothing",
        ):
            self.left(text, text, on=3, a=9)

    def test_what_stands_around_it_stays(self):
        self.left("give at 5 pay 1", "give at 5 pay 1")
        self.left("stop a > 3: (pay 1 and at 5 pay 1)", "stop a > 3: at 5 pay 1", a=3)
        self.left("if a > 3 then at 5 pay a otherwise may 5 pay a", "at 5 pay a", a=4)
        self.left("at 3 at 2 at 5 pay 1", "at 5 pay 1", on=3)

    def test_times_as_a_number_or_minus_and_a_number(self):
        self.left("times 2 * a: at 5 pay a", "times 14: at 5 pay a", a=7)
        self.left("times 2 * a: at 5 pay a", "times -14: at 5 pay a", a=-7)
        self.left("times 1: at 5 pay 1", "times 1: at 5 pay 1")
        self.left("times 2: times a: at 5 pay 1", "times 2: times 3: at 5 pay 1", a=3)

    def test_a_choice_gives_way_to_what_was_chosen(self):
        text = "give (at 5 pay 1 and (pay 1 and pay 2 or (pay 3 else at 5 pay 4)))"
        agreement = steps(text)
        place, side = waiting_in(agreement)[0]
        self.assertEqual(choice_made(agreement, place, 0), steps("give (at 5 pay 1 and (pay 1 and pay 2))"))
        self.assertEqual(choice_made(agreement, place, 1), steps("give (at 5 pay 1 and (pay 3 else at 5 pay 4))"))


if __name__ == "__main__":
    unittest.main()

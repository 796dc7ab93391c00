import random
import unittest

from dayagreement.faults import Fault
from dayagreement.reading import agreement_of
from dayagreement.tokens import tokens_of
from tests import model
from tests.lines import begin, choose, day, last, left, opening, paid, text_of, text_told, told, waits
from tests.made import Maker


def left_of(text, on=0):
    return text_of(last(opening(text, on), left()))


def read(text):
    return agreement_of(tokens_of(list(text.encode())))


class WrittenTest(unittest.TestCase):
    """Behind open, what's left is the agreement itself, written."""

    def stays(self, *texts):
        for text in texts:
            self.assertEqual(left_of(text), text)

    def becomes(self, text, expected):
        self.assertEqual(left_of(text), expected)
        self.assertEqual(read(text), read(expected))

    def test_how_many_bytes_then_these(self):
        self.assertEqual(last(opening("pay 1"), left()), [5, 112, 97, 121, 32, 49])
        self.assertEqual(last(opening("  nothing  "), left()), [7] + list(b"nothing"))

    def test_each_kind_of_agreement(self):
        self.stays(
            "nothing", "pay 3", "pay a", "pay 1 and pay 2", "pay 1 or pay 2", "pay 1 else pay 2", "at 4 pay 1",
            "may 4 pay 1", "if 1 < 2 then pay 1 otherwise pay 2", "give pay 1", "times 2: pay 1", "stop 1 = 2: pay 1",
            "at 0 nothing", "may 9999999 nothing", "times -3: pay 1", "times 2 * a: give stop not a < 3: nothing",
        )

    def test_each_kind_of_expression(self):
        self.stays(
            "pay 0", "pay 9999999", "pay otherwis", "pay -3", "pay --3", "pay -a * -b", "pay 1 + 2", "pay 1 - 2",
            "pay 1 * 2", "pay max(6,10)", "pay min(6,10)", "pay -max(a,-b)", "pay max(min(1,2 + a),3) - max(1,2) * 2",
            "pay a - -b", "pay a * -b", "pay max((1 - (2 - 3)) * 4,5)",
        )

    def test_each_kind_of_condition(self):
        for condition in (
            "1 < 2", "1 = 2", "a > 2", "not 1 < 2", "not not 1 < 2", "a < 1 & b < 2", "a < 1 | b < 2",
            "-a + 1 < 2 * b", "max(1,2) = min(1,2)", "not [1 < 2 & a = b]", "[1 < 2 | a = b] & not [a > 1 | b > 1]",
        ):
            self.stays("stop " + condition + ": pay 1", "if " + condition + " then pay 1 otherwise nothing")

    def test_blanks(self):
        self.becomes("   pay   3   ", "pay 3")
        self.becomes("pay-3", "pay -3")
        self.becomes("pay - - 3", "pay --3")
        self.becomes("pay a-b-3+-4*c", "pay a - b - 3 + -4 * c")
        self.becomes("pay max ( 6 , 10 ) + min(1,2)", "pay max(6,10) + min(1,2)")
        self.becomes("pay - max(1 , - 2)", "pay -max(1,-2)")
        self.becomes("pay - ( a+b )", "pay -(a + b)")
        self.becomes("at3may4give times-2:stop a<b&b>a:if[a=b|a>b]&a=1then(pay a or pay 2)otherwise pay(b)",
                     "at 3 may 4 give times -2: stop a < b & b > a: if [a = b | a > b] & a = 1 then "
                     "(pay a or pay 2) otherwise pay b")
        self.becomes("times 2 :( pay 1and pay 2 )", "times 2: (pay 1 and pay 2)")
        self.becomes("stop a=1 :pay(2)", "stop a = 1: pay 2")
        self.becomes("stop not[not a=1&b=1]:pay(2)", "stop not [not a = 1 & b = 1]: pay 2")
        self.becomes("( ( pay 1or pay 2 )and pay 3 )and give( pay 1and pay 2 )",
                     "(pay 1 or pay 2) and pay 3 and give (pay 1 and pay 2)")

    def test_brackets_of_sums(self):
        self.stays("pay a - (b - c)", "pay a - (b + c)", "pay a + (b - c)", "pay a + (b + c)", "pay a - (b - (c - d))")
        self.becomes("pay (a - b) - c", "pay a - b - c")
        self.becomes("pay (a + b) + c", "pay a + b + c")
        self.becomes("pay ((a - b) + c) - (d)", "pay a - b + c - d")
        self.becomes("pay (((a - b))) - ((c - d))", "pay a - b - (c - d)")
        self.becomes("pay a - (b * c)", "pay a - b * c")
        self.becomes("pay (a * b) - c", "pay a * b - c")
        self.becomes("pay (a)-(-b)", "pay a - -b")
        self.becomes("pay (-a)-(max(a,b))", "pay -a - max(a,b)")

    def test_brackets_of_products(self):
        self.becomes("pay a*(b + c)", "pay a * (b + c)")
        self.becomes("pay (a + b)*c", "pay (a + b) * c")
        self.becomes("pay (a - b)*(a - c)", "pay (a - b) * (a - c)")
        self.becomes("pay a*(b*c)", "pay a * (b * c)")
        self.becomes("pay (a*b)*c", "pay a * b * c")
        self.becomes("pay (-a)*(-b)", "pay -a * -b")
        self.becomes("pay (max(a,b))*(3)", "pay max(a,b) * 3")

    def test_brackets_behind_a_sign(self):
        self.becomes("pay - (a + b)", "pay -(a + b)")
        self.becomes("pay -(a*b)", "pay -(a * b)")
        self.becomes("pay -(-(a))", "pay --a")
        self.becomes("pay -(max(a,b))", "pay -max(a,b)")
        self.becomes("pay -(3)", "pay -3")
        self.becomes("pay (-a) + b", "pay -a + b")
        self.becomes("pay -(a) + b", "pay -a + b")
        self.becomes("pay -(-(a - b) * 2)", "pay -(-(a - b) * 2)")

    def test_brackets_within_max_and_min(self):
        self.becomes("pay max((a + b),(a - (b - c)))", "pay max(a + b,a - (b - c))")
        self.becomes("pay min((a),((-b)))", "pay min(a,-b)")

    def test_brackets_around_whole_expressions(self):
        self.becomes("pay (a + b)", "pay a + b")
        self.becomes("times (a + b) : pay (1)", "times a + b: pay 1")
        self.becomes("stop (a + b) < (a - (b - c)) : pay 1", "stop a + b < a - (b - c): pay 1")
        self.becomes("if (a) = (b * (c)) then pay 1 otherwise pay 2", "if a = b * c then pay 1 otherwise pay 2")

    def test_brackets_of_conditions(self):
        for condition, expected in (
            ("[a < b]", "a < b"),
            ("[[a < b]]", "a < b"),
            ("not [a < b]", "not a < b"),
            ("not [not [a < b]]", "not not a < b"),
            ("[not a < b]", "not a < b"),
            ("not [a < b & b < c]", "not [a < b & b < c]"),
            ("not [a < b | b < c]", "not [a < b | b < c]"),
            ("[not a < b] & b < c", "not a < b & b < c"),
            ("a < b | [b < c & c < a]", "a < b | b < c & c < a"),
            ("[a < b & b < c] | c < a", "a < b & b < c | c < a"),
            ("[a < b | b < c] & c < a", "[a < b | b < c] & c < a"),
            ("a < b & [b < c | c < a]", "a < b & [b < c | c < a]"),
            ("a < b & [b < c & c < a]", "a < b & [b < c & c < a]"),
            ("[a < b & b < c] & c < a", "a < b & b < c & c < a"),
            ("a < b | [b < c | c < a]", "a < b | [b < c | c < a]"),
            ("[a < b | b < c] | c < a", "a < b | b < c | c < a"),
            ("a < b & [not b < c]", "a < b & not b < c"),
        ):
            self.becomes("stop " + condition + ":nothing", "stop " + expected + ": nothing")
            self.becomes("if[" + condition + "]then nothing otherwise nothing",
                         "if " + expected + " then nothing otherwise nothing")

    def test_brackets_of_and_or_and_else(self):
        self.becomes("(pay 1 and pay 2) and pay 3", "pay 1 and pay 2 and pay 3")
        self.stays("pay 1 and (pay 2 and pay 3)")
        self.becomes("(pay 1 and pay 2) or pay 3", "pay 1 and pay 2 or pay 3")
        self.becomes("pay 1 or (pay 2 and pay 3)", "pay 1 or pay 2 and pay 3")
        self.becomes("pay 1 else (pay 2 and pay 3)", "pay 1 else pay 2 and pay 3")
        self.stays("(pay 1 or pay 2) and pay 3", "pay 1 and (pay 2 or pay 3)", "(pay 1 else pay 2) and pay 3")
        self.becomes("(pay 1 or pay 2) or pay 3", "pay 1 or pay 2 or pay 3")
        self.becomes("(pay 1 or pay 2) else pay 3", "pay 1 or pay 2 else pay 3")
        self.becomes("(pay 1 else pay 2) or pay 3", "pay 1 else pay 2 or pay 3")
        self.stays("pay 1 or (pay 2 or pay 3)", "pay 1 or (pay 2 else pay 3)", "pay 1 else (pay 2 or pay 3)")
        self.becomes("(((pay 1)))", "pay 1")
        self.becomes("((nothing) and (give pay 2))", "nothing and give pay 2")

    def test_brackets_behind_what_stands_ahead_of_a_part(self):
        for ahead in (
            "give", "at 3", "may 3", "times a:", "stop a < b:", "if a < b then nothing otherwise",
        ):
            for whole in ("pay 1 and pay 2", "pay 1 or pay 2", "pay 1 else pay 2"):
                self.stays(ahead + " (" + whole + ")", ahead + " " + whole)
            for part in (
                "pay a - b", "give pay 1", "at 4 pay 1", "may 4 pay 1", "times 2: pay 1", "stop 1 < 2: pay 1",
                "if 1 < 2 then pay 1 otherwise pay 2", "nothing",
            ):
                self.becomes(ahead + " (" + part + ")", ahead + " " + part)
                self.becomes("(" + ahead + " " + part + ") and pay 1", ahead + " " + part + " and pay 1")

    def test_brackets_within_if(self):
        self.stays(
            "if a < b then (pay 1 and pay 2) otherwise pay 3", "if a < b then (pay 1 or pay 2) otherwise pay 3",
            "if a < b then (pay 1 else pay 2) otherwise (pay 3 and pay 4)",
        )
        self.becomes("if a<b then(if b<a then(pay 1)otherwise(pay 2))otherwise(if a=b then pay 3 otherwise pay 4)",
                     "if a < b then if b < a then pay 1 otherwise pay 2 otherwise if a = b then pay 3 otherwise pay 4")

    def test_brackets_stand_just_where_they_are_needed(self):
        for seed in range(200):
            tree, text, names = Maker(random.Random(seed)).fitting_agreement()
            if len(names) > 4:
                continue
            given = left_of(text)
            self.assertEqual(given, model.written(tree), text)
            self.assertEqual(read(given), read(text))
            for shorter in self.without_one_pair(given):
                self.assertNotEqual(self.read_or_none(shorter), read(given), (given, shorter))

    def without_one_pair(self, text):
        """The texts that lack one pair of brackets (but of those behind max and min)."""
        found = []
        begun = []
        for place, sign in enumerate(text):
            if sign in "([":
                begun.append(place)
            elif sign in ")]":
                start = begun.pop()
                if text[max(start - 3, 0):start] not in ("max", "min"):
                    found.append(text[:start] + " " + text[start + 1:place] + " " + text[place + 1:])
        return found

    def read_or_none(self, text):
        try:
            return read(text)
        except Fault:
            return None

    def test_deep_texts(self):
        self.becomes("(" * 97 + "pay 1" + ")" * 97, "pay 1")
        self.becomes("pay " + "(" * 97 + "7" + ")" * 97, "pay 7")
        self.becomes("stop" + "[" * 92 + "1<2" + "]" * 92 + ":pay 1", "stop 1 < 2: pay 1")
        self.stays("pay " + "-" * 195 + "3")
        self.becomes("at0" * 65 + "pay 7", "at 0 " * 65 + "pay 7")
        self.becomes("pay a" + "+a" * 97, "pay a" + " + a" * 97)
        self.becomes("pay " + "a-(" * 48 + "a" + ")" * 48, "pay " + "a - (" * 47 + "a - a" + ")" * 47)
        self.stays("give " * 38 + "nothing", "pay " + "max(1," * 27 + "9" + ")" * 27)
        self.becomes("pay1" + "or pay1" * 28, "pay 1" + " or pay 1" * 28)
        self.becomes("stop " + "not " * 46 + "1<2:pay 1", "stop " + "not " * 46 + "1 < 2: pay 1")

    def test_more_than_200_bytes(self):
        text = "pay a" + "+a" * 97
        self.assertEqual(last(opening(text), left())[0], len("pay a") + 4 * 97)


class LeftTest(unittest.TestCase):
    """Behind day, choose and begin."""

    def left(self, text, expected, *numbers, on=0):
        self.assertEqual(last(opening(text, on), day(*numbers), left()), text_told(expected), text)

    def test_nothing(self):
        for text in (
            "nothing", "pay 3", "pay 1 and pay 2", "give pay 1", "times 3: pay 1", "times 0: at 5 pay 1",
            "stop 1 < 2: at 5 pay 1", "stop 2 < 1: pay 1", "may 2 pay 1", "nothing and nothing",
            "give times 2: stop 2 < 1: (pay 1 and at 3 nothing)", "if 1 < 2 then pay 1 otherwise at 5 pay 1",
        ):
            self.left(text, "nothing", on=3)

    def test_nothing_does_not_stand_beside_the_other(self):
        self.assertEqual(left_of("nothing and at 5 pay 2"), "nothing and at 5 pay 2")
        self.left("nothing and at 5 pay 2", "at 5 pay 2")
        self.left("at 5 pay 2 and pay 1 and may 4 pay 4", "at 5 pay 2 and may 4 pay 4")
        self.left("pay 1 and (at 5 pay 2 and may 4 pay 4)", "at 5 pay 2 and may 4 pay 4")
        self.left("at 5 pay 2 and (pay 1 and may 4 pay 4)", "at 5 pay 2 and may 4 pay 4")
        self.left("at 5 pay 2 and (at 6 pay 1 and may 4 pay 4)", "at 5 pay 2 and (at 6 pay 1 and may 4 pay 4)")
        self.left("at 5 pay 2 and (at 6 pay 1 and pay 4 and may 4 pay 4)",
                  "at 5 pay 2 and (at 6 pay 1 and may 4 pay 4)")

    def test_what_waits_or_is_to_come_stays_whole(self):
        for text in (
            "pay a or pay 2 and nothing", "nothing and pay a else pay a * (3 + a)", "at 5 (nothing and pay 1 - a)",
            "may 3 (nothing and times 0: pay a)", "at 4 if a < 3 then nothing otherwise give nothing",
            "may 3 (pay a or at 0 pay a)",
        ):
            self.left(text, text, 9, on=3)

    def test_brackets_come_and_go_with_what_is_left(self):
        self.left("give (pay 1 and at 5 pay a)", "give at 5 pay a", 3)
        self.left("stop a > 3: (pay 1 and (pay a or pay 1))", "stop a > 3: (pay a or pay 1)", 3)
        self.left("at 3 (pay a or pay 2) and at 5 pay 1", "(pay a or pay 2) and at 5 pay 1", 3, on=3)
        self.left("at 5 pay a and if a > 2 then (may 4 pay 1 and may 5 pay 1) otherwise nothing",
                  "at 5 pay a and (may 4 pay 1 and may 5 pay 1)", 3)

    def test_at_if_and_stop(self):
        self.left("at 3 at 2 at 5 pay 1", "at 5 pay 1", on=3)
        self.left("at 5 at 2 at 5 pay 1", "at 5 at 2 at 5 pay 1", on=3)
        self.left("if a > 3 then at 5 pay a otherwise may 5 pay a", "at 5 pay a", 4)
        self.left("if a > 3 then at 5 pay a otherwise may 5 pay a", "may 5 pay a", 3)
        self.left("stop a - 1 > 3: at 5 pay a", "stop a - 1 > 3: at 5 pay a", 4)
        self.left("stop a - 1 > 3: at 5 pay a", "nothing", 5)

    def test_times_as_a_number_or_minus_and_a_number(self):
        for number, expected in ((7, "times 14: at 5 pay a"), (-7, "times -14: at 5 pay a"), (0, "nothing")):
            self.left("times 2 * a: at 5 pay a", expected, number)
        self.left("times 1: at 5 pay 1", "times 1: at 5 pay 1")
        self.left("times -1: at 5 pay 1", "times -1: at 5 pay 1")
        self.left("times --1: at 5 pay 1", "times 1: at 5 pay 1")
        self.left("times 2: times -a: (at 5 pay 1 and pay 3)", "times 2: times -3: at 5 pay 1", 3)
        given = told(opening("times a: at 5 pay a"), day(4), left(), day(9), left())
        self.assertEqual(given[2::2], [text_told("times 4: at 5 pay a")] * 2)
        self.left("at 5 times a + 1: pay a", "at 5 times a + 1: pay a", 4)

    def test_numbers_of_more_than_7_digits(self):
        self.left("times 9999999 + 1: at 5 pay a", "times 10000000: at 5 pay a", 1)
        self.left("times -a * a: at 5 pay a", "times -1000000000000: at 5 pay a", 1000000)
        text = "times " + "*".join("a" * 90) + ":at 9 pay 1"
        self.left(text, "times 1" + "0" * 540 + ": at 9 pay 1", 1000000)
        self.left("times " + "*".join("a" * 89) + ":at 9 pay 1", "times -1" + "0" * 534 + ": at 9 pay 1", -1000000)
        text = "times 9999999" + "*9999999" * 22 + ":at 9 pay 1"
        self.left(text, "times " + str(9999999 ** 23) + ": at 9 pay 1")

    def test_a_times_of_hundreds_of_digits_stays_as_days_go(self):
        text = "times -" + "*".join("a" * 80) + ":(at 2 pay a or nothing)and at 9 pay 1"
        expected = "times -1" + "0" * 480 + ": at 2 pay a and at 9 pay 1"
        given = told(opening(text), day(1000000), choose(0, 0), left(), day(0), left(), day(0), left(), paid())
        self.assertEqual(given[3::2], [text_told(expected), text_told(expected), text_told("at 9 pay 1")])
        self.assertEqual(given[-1], [3, 0, 0, 1, 0, 2, 0])

    def test_behind_choose(self):
        text = "give (at 9 pay 1 and (pay 1 and at 9 pay 2 or (pay 3 else at 9 pay 4 - a)))"
        given = told(opening(text), day(5), choose(0, 0), left())
        self.assertEqual(given[3], text_told("give (at 9 pay 1 and at 9 pay 2)"))
        given = told(opening(text), day(5), choose(0, 1), left(), choose(0, 1), left(), waits())
        self.assertEqual(given[3], text_told("give (at 9 pay 1 and (pay 3 else at 9 pay 4 - a))"))
        self.assertEqual(given[5:], [text_told("give (at 9 pay 1 and at 9 pay 4 - a)"), [0]])
        given = told(opening("times a: stop a > 9: (pay 1 or at 9 times a: at 9 pay a)"), day(2), choose(0, 0), left())
        self.assertEqual(given[3], text_told("nothing"))
        given = told(opening("times 2: stop a > 9: (pay 1 or times a: at 9 pay a)"), day(-3), choose(0, 1), left())
        self.assertEqual(given[3], text_told("times 2: stop a > 9: times -3: at 9 pay a"))

    def test_behind_begin(self):
        given = told(opening("may 3 (pay 1 and at 9 pay a) and may 4 at 3 pay 1"), day(5), begin(0), left())
        self.assertEqual(given[3], text_told("at 9 pay a and may 4 at 3 pay 1"))
        given = told(opening("give may 3 (pay 1 or at 9 pay a) and may 4 at 3 pay 1"), day(5), begin(0), left())
        self.assertEqual(given[3], text_told("give (pay 1 or at 9 pay a) and may 4 at 3 pay 1"))

    def test_it_changes_nothing(self):
        text = "may 3 pay a and (pay 1 or at 2 pay 2)"
        given = told(opening(text), left(), left(), day(5), left(), left(), choose(1, 1), left(), waits(), begin(0))
        self.assertEqual(given[1:], [
            text_told(text), text_told(text), [0, 0], text_told(text), text_told(text), [0, 0],
            text_told("may 3 pay a and at 2 pay 2"), [1, 1, 0], [0, 5],
        ])

    def test_open_reads_what_is_left_as_the_same(self):
        stop = " and stop not [a < b & b < 3]: may 9 pay b"
        text = "times a: (at 5 pay a - (b - a) and (pay 1 or (pay 2 else pay b)))" + stop
        given = told(opening(text), day(-3, 2), left())
        rest = text_of(given[2])
        self.assertEqual(rest, "times -3: (at 5 pay a - (b - a) and (pay 1 or (pay 2 else pay b)))" + stop)
        self.assertEqual(left_of(rest), rest)
        ahead = told(opening(text), day(-3, 2), choose(0, 1), choose(0, 1), day(1, 2), begin(0), left())
        anew = told(opening(rest, 1), day(1, 2), choose(0, 1), choose(0, 1), begin(0), left())
        self.assertEqual(ahead[-1], anew[-1])


class RefusedLeftTest(unittest.TestCase):
    def test_no_agreement(self):
        self.assertEqual(told(left(), opening("pay"), left(), opening("pay 1"), left()), [
            [-9], [-13], [-9], [0], text_told("pay 1"),
        ])

    def test_a_refused_open_leaves_what_was_left(self):
        given = told(opening("pay 1 or pay 2"), opening("pay 3 or"), left(), day(), opening("!"), left())
        self.assertEqual(given[2::3], [text_told("pay 1 or pay 2"), text_told("pay 1 or pay 2")])


if __name__ == "__main__":
    unittest.main()

import unittest

from tests.lines import day, last, opening, told, waits


def fault(place):
    return [-10 - place]


def name_told(*names):
    answer = [len(names)]
    for name in names:
        answer += [len(name)] + list(name.encode())
    return answer


class OpensTest(unittest.TestCase):
    def opens(self, text, *names):
        self.assertEqual(last(opening(text)), name_told(*names), text)

    def test_each_kind_of_agreement(self):
        for text in (
            "nothing", "pay 3", "pay 1 and pay 2", "pay 1 or pay 2", "pay 1 else pay 2",
            "at 4 pay 1", "may 4 pay 1", "if 1 < 2 then pay 1 otherwise pay 2",
            "give pay 1", "times 2 : pay 1", "stop 1 = 2 : pay 1", "(pay 1)",
            "pay 1 and pay 2 and pay 3", "pay 1 or pay 2 else pay 3 or pay 4",
            "give (pay 1 or pay 2 and pay 3)", "at 9999999 nothing", "may 0 nothing",
            "give give give pay 1", "if 1<2 then if 2<1 then pay 1 otherwise pay 2 otherwise pay 3",
        ):
            self.opens(text)

    def test_each_kind_of_expression(self):
        for text in (
            "pay 0", "pay 9999999", "pay -3", "pay - - -3", "pay 1 + 2 - 3", "pay 2 * 3 * 4",
            "pay max(1, 2)", "pay min(1, 2)", "pay max(min(1,2),(3))", "pay (1 + 2) * -(3)",
            "pay 2 * -3", "pay 1 - -1", "pay ((((1))))",
        ):
            self.opens(text)
        self.opens("pay a", "a")

    def test_each_kind_of_condition(self):
        for condition in (
            "1 < 2", "1 = 2", "1 > 2", "not 1 < 2", "not not 1 < 2", "1 < 2 & 2 < 3 & 3 < 4",
            "1 < 2 | 2 < 3 | 3 < 4", "[1 < 2]", "[[1 < 2]]", "not [1 < 2 | 2 < 1] & [1 = 1]",
            "(1) < (2) + 1", "max(1, 2) > -3 * 2", "not 1 < 2 & not 2 < 1",
        ):
            self.opens("stop " + condition + " : pay 1")
            self.opens("if " + condition + " then pay 1 otherwise nothing")

    def test_blanks_may_stand_between_or_not(self):
        self.opens("pay1and(pay2)")
        self.opens("at3may4give times-2:stop a<b&b>a:if[a=b]then pay a otherwise pay(b)", "a", "b")
        self.opens("   pay   3   ")
        self.opens("pay a  ", "a")

    def test_names_in_the_order_in_which_they_come_first(self):
        self.opens("pay b + a * b", "b", "a")
        self.opens("if d > c then pay b otherwise pay a", "d", "c", "b", "a")
        self.opens("at 3 (pay z or may 4 times y : give pay z and pay x)", "z", "y", "x")
        self.opens("pay rain + snowfall + a", "rain", "snowfall", "a")

    def test_all_words_but_the_kept_ones_are_names(self):
        for word in ("number", "name", "end", "part", "sum", "agreemen", "begin", "nothin", "paid", "negative"):
            self.opens("pay " + word, word)
        for word in (
            "nothing", "pay", "give", "at", "may", "if", "then", "otherwise",
            "times", "stop", "and", "or", "else", "max", "min", "not",
        ):
            self.assertLess(last(opening("pay " + word))[0], -9, word)

    def test_four_names_and_five(self):
        self.opens("pay a + b + c + d", "a", "b", "c", "d")
        self.opens("pay a + b + c + d + a + b", "a", "b", "c", "d")
        self.assertEqual(last(opening("pay a + b + c + d + e")), [-1])
        self.assertEqual(last(opening("at 9 (pay a + b or pay c + d + e)")), [-1])

    def test_a_fault_is_told_ahead_of_too_many_names(self):
        self.assertEqual(last(opening("pay a + b + c + d + e)")), fault(21))
        self.assertEqual(last(opening("pay a + b + c + d + e +")), fault(23))


class TokenFaultTest(unittest.TestCase):
    def faults(self, text, place):
        self.assertEqual(last(opening(text)), fault(place), text)

    def test_each_byte_that_cannot_begin_a_token(self):
        fitting = [ord(sign) for sign in " ()[],:+-*<=>&|"]
        fitting += list(range(ord("a"), ord("z") + 1)) + list(range(ord("0"), ord("9") + 1))
        for byte in range(256):
            answer = last(opening(list(b"pay 1 and ") + [byte] + list(b" pay 2")))
            if byte not in fitting:
                self.assertEqual(answer, fault(10), byte)
            elif byte == ord(" "):
                self.assertEqual(answer, [0])
            elif byte == ord("("):
                self.assertEqual(answer, fault(17))
            else:
                self.assertEqual(answer, fault(10), byte)

    def test_a_byte_that_cannot_begin_a_token_at_each_place(self):
        text = list(b"pay 12 or give (nothing)")
        for place in range(len(text) + 1):
            for byte in (0, 10, 64, 65, 96, 123, 255):
                self.faults(text[:place] + [byte] + text[place:], place)

    def test_words(self):
        self.assertEqual(last(opening("pay abcdefgh")), name_told("abcdefgh"))
        self.faults("pay abcdefghi", 4)
        self.assertEqual(last(opening("pay otherwis")), name_told("otherwis"))
        self.faults("pay otherwisf + otherwisee", 4)
        self.faults("pay 1 + otherwisee", 8)
        self.faults("paypaypay 1", 0)
        self.faults("pay 1 + nothingpay", 8)

    def test_the_long_word_is_a_token(self):
        self.faults("pay otherwise", 4)
        self.faults("otherwise", 0)

    def test_numbers(self):
        self.assertEqual(last(opening("pay 9999999")), [0])
        self.faults("pay 10000000", 4)
        self.faults("pay 1 + 123456789012", 8)
        self.faults("at 12345678 nothing", 3)

    def test_a_0_ahead_of_other_digits(self):
        self.assertEqual(last(opening("pay 0")), [0])
        self.assertEqual(last(opening("pay 100")), [0])
        self.faults("pay 00", 4)
        self.faults("pay 1 - 01", 8)
        self.faults("at 007 nothing", 3)
        self.faults("pay 00000001", 4)

    def test_the_first_of_several(self):
        self.faults("pay 01 + abcdefghi + !", 4)
        self.faults("pay abcdefghi + 01", 4)
        self.faults("?pay 01", 0)

    def test_behind_a_fault_of_the_grammar(self):
        self.faults("pay pay 1 !", 10)
        self.faults(") abcdefghi", 2)
        self.faults("and 012", 4)
        self.faults("nothing nothing 12345678", 16)


class GrammarFaultTest(unittest.TestCase):
    def faults(self, text, place):
        self.assertEqual(last(opening(text)), fault(place), text)

    def test_at_the_first_place(self):
        for text in ("a", "3", ")", "-", "and", "or", "else", "then", "not 1 < 2", "[nothing]", "max(1,2)"):
            self.faults(text, 0)
        self.faults("  a", 2)

    def test_agreements(self):
        self.faults("nothing nothing", 8)
        self.faults("nothing)", 7)
        self.faults("nothing and or nothing", 12)
        self.faults("at x nothing", 3)
        self.faults("at -3 nothing", 3)
        self.faults("may (3) nothing", 4)
        self.faults("at 3 4", 5)
        self.faults("give 3", 5)
        self.faults("give [nothing]", 5)
        self.faults("times 3 pay 1", 8)
        self.faults("times 3 : : pay 1", 10)
        self.faults("times : pay 1", 6)
        self.faults("stop a pay 1", 7)
        self.faults("stop a < 1 pay 1", 11)
        self.faults("if 1 < 2 pay 1 otherwise pay 2", 9)
        self.faults("if 1 < 2 then pay 1 pay 2", 20)
        self.faults("if 1 < 2 then pay 1 else pay 2", 20)
        self.faults("if 1 < 2 then pay 1 and pay 2 otherwise pay 3", 20)
        self.faults("(pay 1 or pay 2 otherwise pay 3)", 16)
        self.faults("()", 1)

    def test_expressions(self):
        self.faults("pay nothing", 4)
        self.faults("pay +3", 4)
        self.faults("pay 1 + * 2", 8)
        self.faults("pay 1 2", 6)
        self.faults("pay a b", 6)
        self.faults("pay a1", 5)
        self.faults("pay 1a", 5)
        self.faults("pay max 1", 8)
        self.faults("pay max(1)", 9)
        self.faults("pay max(1,2,3)", 11)
        self.faults("pay (1,2)", 6)
        self.faults("pay [1]", 4)
        self.faults("pay 1 < 2", 6)
        self.faults("pay min(1;2)", 9)

    def test_conditions(self):
        self.faults("stop [a] < b : nothing", 7)
        self.faults("stop (a < b) : nothing", 8)
        self.faults("stop a < b < c : nothing", 11)
        self.faults("stop a < b & c : nothing", 15)
        self.faults("stop a < b | : nothing", 13)
        self.faults("stop a not < b : nothing", 7)
        self.faults("stop not : nothing", 9)
        self.faults("stop [a < b : nothing", 12)
        self.faults("stop a < b] : nothing", 10)
        self.faults("stop a & b : nothing", 7)
        self.faults("stop a < not b : nothing", 9)

    def test_texts_that_end_too_soon(self):
        self.faults("", 0)
        self.faults("   ", 3)
        for text in (
            "pay", "pay 1 +", "pay (1", "pay max", "pay max(1,", "nothing and", "nothing or ", "give",
            "at", "at 3", "may 3  ", "times 2", "times 2:", "stop", "stop a", "stop a <", "stop a < b",
            "stop a < b :", "stop [a < b", "stop not", "if", "if a < b", "if a < b then", "if a<b then pay 1",
            "if a<b then pay 1 otherwise", "(", "((nothing)", "(nothing and nothing", "pay -",
        ):
            self.faults(text, len(text))

    def test_each_beginning_of_an_agreement_ends_too_soon_or_is_one(self):
        tokens = (
            "if not [ a < 3 | b = 2 ] & c > 1 then give at 3 ( pay max ( 1 , - a ) or nothing ) "
            "otherwise times 2 * a : may 4 pay b - 1 and stop a < 1 : nothing"
        ).split()
        whole = []
        for count in range(len(tokens) + 1):
            text = " ".join(tokens[:count])
            answer = last(opening(text))
            if answer[0] >= 0:
                whole.append(tokens[count - 1])
            else:
                self.assertEqual(answer, fault(len(text)), text)
        self.assertEqual(whole, ["b", "1", "nothing"])


class DeepTextTest(unittest.TestCase):
    def test_brackets_of_agreements(self):
        text = "(" * 97 + "pay 1" + ")" * 97
        self.assertLessEqual(len(text), 200)
        self.assertEqual(told(opening(text), day()), [[0], [0, 1]])
        self.assertEqual(last(opening("(" * 200)), fault(200))
        self.assertEqual(last(opening("(" * 199 + ")")), fault(199))

    def test_brackets_of_expressions(self):
        text = "pay " + "(" * 97 + "7" + ")" * 97
        self.assertEqual(told(opening(text), day()), [[0], [0, 7]])
        self.assertEqual(last(opening("pay " + "(" * 196)), fault(200))
        text = "pay " + "max(1," * 27 + "9" + ")" * 27
        self.assertEqual(told(opening(text), day()), [[0], [0, 9]])

    def test_signs(self):
        self.assertEqual(told(opening("pay " + "-" * 195 + "3"), day()), [[0], [0, -3]])
        self.assertEqual(told(opening("pay " + "-" * 194 + "3"), day()), [[0], [0, 3]])
        self.assertEqual(last(opening("pay " + "-" * 196)), fault(200))

    def test_conditions(self):
        text = "stop" + "[" * 92 + "1<2" + "]" * 92 + ":pay 1"
        self.assertLessEqual(len(text), 200)
        self.assertEqual(told(opening(text), day()), [[0], [0, 0]])
        text = "stop " + "not " * 46 + "1<2:pay 1"
        self.assertLessEqual(len(text), 200)
        self.assertEqual(told(opening(text), day()), [[0], [0, 0]])
        self.assertEqual(last(opening("stop" + "[" * 196)), fault(200))

    def test_agreements(self):
        self.assertEqual(told(opening("at0" * 65 + "pay 7"), day()), [[0], [0, 7]])
        self.assertEqual(told(opening("may0" * 48 + "pay 7"), day(), waits()), [[0], [0, 0], [1, 1, 0]])
        self.assertEqual(told(opening("give " * 39 + "pay 7"), day()), [[0], [0, -7]])
        self.assertEqual(told(opening("times2:" * 27 + "pay 7"), day()), [[0], [0, 7 * 2 ** 27]])
        self.assertEqual(told(opening("stop1>2:" * 24 + "pay 7"), day()), [[0], [0, 7]])
        text = "if1<2then(" * 7 + "pay 7" + ")otherwise pay0" * 7
        self.assertLessEqual(len(text), 200)
        self.assertEqual(told(opening(text), day()), [[0], [0, 7]])

    def test_long_rows(self):
        text = "pay1" + "and pay1" * 24
        self.assertEqual(told(opening(text), day()), [[0], [0, 25]])
        text = "pay1" + "or pay1" * 28
        self.assertEqual(told(opening(text), day(), waits()), [[0], [0, 0], [1, 0, 0]])
        text = "pay a" + "+a" * 97
        self.assertEqual(told(opening(text), day(2)), [name_told("a"), [0, 196]])


class RefusedOpenTest(unittest.TestCase):
    def test_what_was_there_stays(self):
        given = told(
            opening("pay a or pay 2", 5), day(1), opening("pay", 9), opening("pay a+b+c+d+e", 9), waits(),
            opening("pay !", 9), [3, 2, 0, 0, 0], day(4),
        )
        self.assertEqual(given[2:], [fault(3), [-1], [1, 0, 0], fault(4), [0, 1], [6, 0]])

    def test_there_is_none_behind_a_refused_first_one(self):
        self.assertEqual(told(opening("pay"), day()), [fault(3), [-9]])
        self.assertEqual(told(opening("pay a+b+c+d+e"), day(1, 2, 3, 4, 5)), [[-1], [-9]])

    def test_another_one_takes_the_place(self):
        given = told(
            opening("pay 1 or pay 2", 5), day(), opening("pay b", 2), waits(), day(7), day(8),
        )
        self.assertEqual(given[2:], [name_told("b"), [-4], [2, 7], [3, 0]])


if __name__ == "__main__":
    unittest.main()

import random
import unittest

from dayagreement.agreement import answers
from tests import model
from tests.lines import begin, choose, day, last, left, opening, paid, text_of, told, undo, waits
from tests.made import NAMES, Maker

TOO_LARGE = 10 ** 300


class MixedLine:
    """A line of calls made by chance, with what the model answers to each."""

    def __init__(self, seed):
        self.chance = random.Random(seed)
        self.maker = Maker(self.chance)
        self.model = model.Model()
        self.calls = []
        self.expected = []
        if self.chance.random() < 0.9:
            self.add_open()
        while len(self.calls) < 60:
            self.add_call()

    def add(self, call, answer):
        self.calls.append(call)
        self.expected.append(answer)

    def add_open(self):
        self.maker.first_day = self.chance.choice((0, 3, 999998))
        tree, text, names = self.maker.fitting_agreement()
        start = self.maker.first_day + self.chance.randrange(3)
        if len(names) > 4:
            self.add(opening(text, start), [-1])
        elif self.chance.random() < 0.05:
            # A fault of a token goes ahead of what else is wrong with a text that was cut off.
            text = text[:190].rstrip() + " !"
            self.add(opening(text, start), [-10 - (len(text) - 1)])
        else:
            self.add(opening(text, start), self.model.open(start, tree, names))

    def observed(self):
        count = len(self.model.names) if self.model.opened and self.chance.random() < 0.95 else 2
        return [self.chance.choice((-1000000, -3, -1, 0, 1, 2, 5, 1000000)) for turn in range(count)]

    def waiting_number(self, is_may):
        """Mostly the number of one that waits and is of that kind."""
        if self.model.opened and self.model.seen is not None and self.chance.random() < 0.9:
            found = [number for number, one in enumerate(model.waiting(self.model.tree)) if one[0] == is_may]
            if found:
                return self.chance.choice(found)
        return self.chance.choice((0, 0, 1, 2, 3, 1000000))

    def add_call(self):
        kind = self.chance.random()
        if kind < 0.03:
            self.add_open()
        elif kind < 0.28:
            numbers = self.observed()
            self.add(day(*numbers), self.model.day(numbers))
        elif kind < 0.36:
            self.add(waits(), self.model.waits())
        elif kind < 0.54:
            number, which = self.waiting_number(False), self.chance.choice((0, 0, 0, 1, 1, 1, 2))
            self.add(choose(number, which), self.model.choose(number, which))
        elif kind < 0.66:
            number = self.waiting_number(True)
            self.add(begin(number), self.model.begin(number))
        elif kind < 0.80:
            self.add(left(), self.model.left())
        elif kind < 0.86:
            self.add(paid(), self.model.told_paid())
        else:
            self.add(undo(), self.model.undo())

    def is_handed_in(self):
        return all(-TOO_LARGE < number < TOO_LARGE for answer in self.expected for number in answer)


class MixedLinesTest(unittest.TestCase):
    def test_lines_of_60_calls(self):
        refusals = set()
        for seed in range(400):
            line = MixedLine(seed)
            if not line.is_handed_in():
                continue
            for call, expected, given in zip(line.calls, line.expected, told(*line.calls)):
                self.assertEqual(given, expected, (seed, call))
                if given[0] < 0:
                    refusals.add((call[0], max(given[0], -10)))
        self.assertLessEqual({
            (0, -10), (0, -1), (1, -9), (1, -1), (1, -6), (2, -9), (2, -4), (3, -1), (3, -9), (3, -4), (3, -2),
            (3, -3), (4, -9), (4, -4), (4, -2), (4, -3), (5, -9), (6, -9), (7, -7),
        }, refusals)

    def test_what_is_handed_in_stays_and_nothing_is_kept(self):
        line = [number for call in MixedLine(1).calls for number in call]
        copy = list(line)
        given = answers(line)
        self.assertEqual(line, copy)
        self.assertEqual(answers([5, 0, 0, 6, 0, 0, 7, 0, 0]), [1, -9, 1, -9, 1, -7])
        self.assertEqual(answers(line), given)
        for number in given:
            self.assertIs(type(number), int)


class AllThatIsToComeTest(unittest.TestCase):
    """What's left, opened anew on the next day, pays what the agreement itself would have paid."""

    def days_of(self, chance, count):
        return [{name: chance.choice((-7, -1, 0, 1, 2, 6)) for name in NAMES} for turn in range(count)]

    def settling(self, found, seen):
        """The next of what waits to be settled on a day; None if the day may end."""
        for number, is_may in enumerate(found[1::2]):
            if is_may and seen["a"] > 0:
                return begin(number)
            if not is_may:
                return choose(number, 1 if seen["bc"] > 0 else 0)
        return None

    def gone_on(self, text, start, days):
        """The calls and answers of these days, what is settled on them depends on what is observed."""
        names = model.names_in(tokens_of(text))
        calls = [opening(text, start)]
        given = []
        for seen in days:
            call = day(*[seen[name] for name in names])
            while call is not None:
                calls.append(call)
                given.append(last(*calls))
                call = self.settling(last(*calls, waits()), seen)
        return calls, given

    def test_opened_anew(self):
        opened = 0
        for seed in range(500):
            chance = random.Random(seed)
            tree, text, names = Maker(chance).fitting_agreement()
            if len(names) > 4:
                continue
            days = self.days_of(chance, 6)
            calls, given = self.gone_on(text, 0, days[:2])
            rest = text_of(last(*calls, left()))
            if len(rest) > 200 or any(len(token) > 7 and token.isdigit() for token in tokens_of(rest)):
                continue
            opened += rest != "nothing"
            self.assertEqual(text_of(last(opening(rest), left())), rest)
            whole_calls, whole = self.gone_on(text, 0, days)
            self.assertLess(len(whole_calls), 60)
            self.assertEqual(whole[:len(given)], given)
            self.assertEqual(self.gone_on(rest, 2, days[2:])[1], whole[len(given):], (text, rest))
        self.assertGreater(opened, 50)


def tokens_of(text):
    """The words, numbers and signs of a text."""
    spread = ""
    for sign in text:
        kinds = [before(sign) == before(spread[-1]) for before in (str.isalpha, str.isdigit)] if spread else [True]
        if not all(kinds) or not sign.isalnum():
            spread += " "
        spread += sign
    return spread.split()


if __name__ == "__main__":
    unittest.main()

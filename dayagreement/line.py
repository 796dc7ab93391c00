"""What a line of calls is about: one agreement, from day to day."""

from dayagreement.days import begun, choice_made, gone_through, waiting_in
from dayagreement.faults import Fault
from dayagreement.reading import agreement_of
from dayagreement.tokens import names_of, tokens_of
from dayagreement.writing import written

MOST_NAMES = 4
MOST_TAKEN_BACK = 32

# The numbers that refusals tell, less their sign.
DOES_NOT_FIT = 1
NONE_WAITS_THERE = 2
NOT_OF_THAT_KIND = 3
NO_DAY = 4
CHOICE_WAITS = 6
NOTHING_TO_TAKE_BACK = 7
NO_AGREEMENT = 9
FAULT = 10


class Standing:
    """How an agreement stands; one that was made isn't changed, so that undo can come back to it.

    seen is what was observed on the last day, None ahead of the first one; payments has
    each day that began with what was paid on it.
    """

    def __init__(self, agreement, next_day, seen, payments):
        self.agreement = agreement
        self.next_day = next_day
        self.seen = seen
        self.payments = payments


class Line:
    """Each call gives back its answer as a list of numbers; a refusal changes nothing."""

    def __init__(self):
        self.now = None
        self.earlier = []
        self.names = []

    def take_up(self, day, text):
        try:
            tokens = tokens_of(text)
            agreement = agreement_of(tokens)
        except Fault as fault:
            return refusal(FAULT + fault.place)
        names = names_of(tokens)
        if len(names) > MOST_NAMES:
            return refusal(DOES_NOT_FIT)
        self.now = Standing(agreement, day, None, [])
        self.earlier = []
        self.names = names
        return names_told(names)

    def start_day(self, numbers):
        now = self.now
        if now is None:
            return refusal(NO_AGREEMENT)
        if len(numbers) != len(self.names):
            return refusal(DOES_NOT_FIT)
        if now.seen is not None and choice_waits(now.agreement):
            return refusal(CHOICE_WAITS)
        day = now.next_day
        seen = dict(zip(self.names, numbers))
        left, paid = gone_through(now.agreement, day, seen)
        self.move_on(Standing(left, day + 1, seen, now.payments + [(day, paid)]))
        return [day, paid]

    def waits(self):
        refused = self.refused_within_a_day()
        if refused is not None:
            return refused
        waiting = waiting_in(self.now.agreement)
        answer = [len(waiting)]
        for place, side in waiting:
            answer.append(1 if may_at(self.now.agreement, place) else 0)
            answer.append(side)
        return answer

    def choose(self, number, which):
        if which > 1:
            return refusal(DOES_NOT_FIT)
        refused = self.refused_of_one(number, False)
        if refused is not None:
            return refused
        return self.settle(choice_made(self.now.agreement, self.place_of(number), which))

    def begin(self, number):
        refused = self.refused_of_one(number, True)
        if refused is not None:
            return refused
        return self.settle(begun(self.now.agreement, self.place_of(number)))

    def tell_left(self):
        if self.now is None:
            return refusal(NO_AGREEMENT)
        return text_told(written(self.now.agreement))

    def tell_paid(self):
        if self.now is None:
            return refusal(NO_AGREEMENT)
        answer = [len(self.now.payments)]
        for day, paid in self.now.payments:
            answer.extend([day, paid])
        return answer

    def undo(self):
        if len(self.earlier) == 0:
            return refusal(NOTHING_TO_TAKE_BACK)
        self.now = self.earlier.pop()
        return [len(self.earlier)]

    def refused_within_a_day(self):
        """The refusal of what can only be asked when a day has begun; None if one has."""
        if self.now is None:
            return refusal(NO_AGREEMENT)
        if self.now.seen is None:
            return refusal(NO_DAY)
        return None

    def refused_of_one(self, number, is_may):
        """Why the one of that number that waits can't be begun (is_may) or chosen; None if it can."""
        refused = self.refused_within_a_day()
        if refused is not None:
            return refused
        if number >= len(waiting_in(self.now.agreement)):
            return refusal(NONE_WAITS_THERE)
        if may_at(self.now.agreement, self.place_of(number)) != is_may:
            return refusal(NOT_OF_THAT_KIND)
        return None

    def place_of(self, number):
        return waiting_in(self.now.agreement)[number][0]

    def settle(self, agreement):
        """Goes on with an agreement in which something was chosen or begun on the day that has begun."""
        # What else is left on this day already stays as it is and pays no more, so to go
        # through all of it again settles just what was chosen or begun.
        now = self.now
        day, paid_before = now.payments[-1]
        left, paid = gone_through(agreement, day, now.seen)
        payments = now.payments[:-1] + [(day, paid_before + paid)]
        self.move_on(Standing(left, now.next_day, now.seen, payments))
        return [0, paid]

    def move_on(self, standing):
        self.earlier.append(self.now)
        self.earlier = self.earlier[-MOST_TAKEN_BACK:]
        self.now = standing


def refusal(number):
    return [-number]


def choice_waits(agreement):
    for place, side in waiting_in(agreement):
        if not may_at(agreement, place):
            return True
    return False


def may_at(agreement, place):
    return agreement[place][0] == "may"


def names_told(names):
    answer = [len(names)]
    for name in names:
        answer.extend(text_told(name))
    return answer


def text_told(text):
    return [len(text)] + [ord(sign) for sign in text]

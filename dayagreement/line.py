"""What a line of calls is about: one agreement, from day to day."""

from dayagreement.days import choice_made, gone_through, waiting_in
from dayagreement.faults import Fault
from dayagreement.reading import agreement_of
from dayagreement.tokens import names_of, tokens_of

MOST_NAMES = 4

# The numbers that refusals tell, less their sign.
DOES_NOT_FIT = 1
NONE_WAITS_THERE = 2
NOT_OF_THAT_KIND = 3
NO_DAY = 4
CHOICE_WAITS = 6
NO_AGREEMENT = 9
FAULT = 10


class Line:
    """Each call gives back its answer as a list of numbers; a refusal changes nothing."""

    def __init__(self):
        self.agreement = None
        self.names = []
        self.next_day = 0
        self.seen = None

    def take_up(self, day, text):
        try:
            tokens = tokens_of(text)
            agreement = agreement_of(tokens)
        except Fault as fault:
            return refusal(FAULT + fault.place)
        names = names_of(tokens)
        if len(names) > MOST_NAMES:
            return refusal(DOES_NOT_FIT)
        self.agreement = agreement
        self.names = names
        self.next_day = day
        self.seen = None
        return names_told(names)

    def start_day(self, numbers):
        if self.agreement is None:
            return refusal(NO_AGREEMENT)
        if len(numbers) != len(self.names):
            return refusal(DOES_NOT_FIT)
        if self.seen is not None and self.choice_waits():
            return refusal(CHOICE_WAITS)
        day = self.next_day
        self.seen = dict(zip(self.names, numbers))
        self.next_day = day + 1
        return [day, self.go_through(self.agreement)]

    def waits(self):
        if self.agreement is None:
            return refusal(NO_AGREEMENT)
        if self.seen is None:
            return refusal(NO_DAY)
        waiting = waiting_in(self.agreement)
        answer = [len(waiting)]
        for place, side in waiting:
            answer.append(1 if self.may_at(place) else 0)
            answer.append(side)
        return answer

    def choose(self, number, which):
        if which > 1:
            return refusal(DOES_NOT_FIT)
        if self.agreement is None:
            return refusal(NO_AGREEMENT)
        if self.seen is None:
            return refusal(NO_DAY)
        waiting = waiting_in(self.agreement)
        if number >= len(waiting):
            return refusal(NONE_WAITS_THERE)
        place = waiting[number][0]
        if self.may_at(place):
            return refusal(NOT_OF_THAT_KIND)
        # What else is left on this day already stays as it is and pays no more, so to go
        # through all of it again settles just what was chosen.
        return [0, self.go_through(choice_made(self.agreement, place, which))]

    def go_through(self, agreement):
        """Goes through the agreement on the day that has begun, keeps what is left, gives what is paid."""
        left, paid = gone_through(agreement, self.next_day - 1, self.seen)
        self.agreement = left
        return paid

    def choice_waits(self):
        for place, side in waiting_in(self.agreement):
            if not self.may_at(place):
                return True
        return False

    def may_at(self, place):
        return self.agreement[place][0] == "may"


def refusal(number):
    return [-number]


def names_told(names):
    answer = [len(names)]
    for name in names:
        answer.append(len(name))
        answer.extend([ord(letter) for letter in name])
    return answer

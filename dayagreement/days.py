"""What becomes of an agreement on a day, and what waits in it then."""

from dayagreement.reckoning import reckoned
from dayagreement.steps import joined, nothing, number_steps, part_start, taken_parts

HOLDER = 0
OTHER_SIDE = 1


class Outcome:
    """What becomes of a part on a day: as it was, what is left of it, what is paid by it."""

    def __init__(self, whole, left, paid):
        self.whole = whole
        self.left = left
        self.paid = paid


def gone_through(agreement, day, seen):
    """What is left of the agreement on this day with what is observed, and what is paid by it."""
    stack = []
    for step in agreement:
        # Parts come ahead of what they stand in, so also those are gone through that
        # still wait: they are kept whole as well, and what they would pay is dropped.
        parts = taken_parts(stack, step[0])
        whole = joined([part.whole for part in parts], step)
        left, paid = step_outcome(step, parts, whole, day, seen)
        stack.append(Outcome(whole, left, paid))
    return stack[0].left, stack[0].paid


def step_outcome(step, parts, whole, day, seen):
    word, detail = step
    if word == "pay":
        return nothing(), reckoned(detail, seen)
    if word == "and":
        return both_left(parts[0].left, parts[1].left), parts[0].paid + parts[1].paid
    if word == "at" and detail <= day:
        return parts[0].left, parts[0].paid
    if word == "may" and detail < day:
        return nothing(), 0
    if word == "if":
        followed = parts[0] if reckoned(detail, seen) else parts[1]
        return followed.left, followed.paid
    if word == "give":
        return left_within(parts[0].left, step), -parts[0].paid
    if word == "times":
        return times_outcome(reckoned(detail, seen), parts[0])
    if word == "stop":
        if reckoned(detail, seen):
            return nothing(), 0
        return left_within(parts[0].left, step), parts[0].paid
    return whole, 0


def times_outcome(factor, part):
    if factor == 0:
        return nothing(), 0
    return left_within(part.left, ("times", number_steps(factor))), factor * part.paid


def both_left(first, second):
    if first == nothing():
        return second
    if second == nothing():
        return first
    return joined([first, second], ("and", None))


def left_within(left, step):
    if left == nothing():
        return left
    return joined([left], step)


def waiting_in(agreement):
    """What waits, from the left: for each the place of its step, and whose it is."""
    stack = []
    for place, step in enumerate(agreement):
        within = []
        for part in taken_parts(stack, step[0]):
            within.extend(part)
        stack.append(waiting_at(place, step[0], within))
    return stack[0]


def waiting_at(place, word, within):
    if word in ("or", "may"):
        return [(place, HOLDER)]
    if word == "else":
        return [(place, OTHER_SIDE)]
    if word in ("at", "if"):
        return []
    if word == "give":
        return [(inner, exchanged(side)) for inner, side in within]
    return within


def exchanged(side):
    return OTHER_SIDE if side == HOLDER else HOLDER


def choice_made(agreement, place, which):
    """The agreement with the first (which 0) or second part of a choice in the choice's place."""
    second = part_start(agreement, place - 1)
    first = part_start(agreement, second - 1)
    part = agreement[first:second] if which == 0 else agreement[second:place]
    return agreement[:first] + part + agreement[place + 1:]


def begun(agreement, place):
    """The agreement with what may be begun in the place of the may."""
    return agreement[:place] + agreement[place + 1:]

"""The package's interface: a line of calls about one agreement, and its answers."""

from dayagreement.faults import UnknownCall
from dayagreement.line import Line

OPEN_CALL = 0
DAY_CALL = 1
WAITS_CALL = 2
CHOOSE_CALL = 3
BEGIN_CALL = 4
LEFT_CALL = 5
PAID_CALL = 6
UNDO_CALL = 7


def answers(calls):
    """The answers to a line of calls: for each how many numbers it has, then these."""
    line = Line()
    told = []
    place = 0
    while place < len(calls):
        numbers, lists, behind = handed_over(calls, place)
        answer = answer_to(line, calls[place], numbers, lists)
        told.append(len(answer))
        told.extend(answer)
        place = behind
    return told


def handed_over(calls, place):
    """The numbers and the lists of the call at this place, and the place behind it."""
    numbers, behind = counted(calls, place + 1)
    lists = []
    list_count = calls[behind]
    behind += 1
    for turn in range(list_count):
        one_list, behind = counted(calls, behind)
        lists.append(one_list)
    return numbers, lists, behind


def counted(calls, place):
    """The numbers whose count stands at this place, and the place behind them."""
    behind = place + 1 + calls[place]
    return calls[place + 1:behind], behind


def answer_to(line, call, numbers, lists):
    if call == OPEN_CALL:
        return line.take_up(numbers[0], lists[0])
    if call == DAY_CALL:
        return line.start_day(numbers)
    if call == WAITS_CALL:
        return line.waits()
    if call == CHOOSE_CALL:
        return line.choose(numbers[0], numbers[1])
    if call == BEGIN_CALL:
        return line.begin(numbers[0])
    if call == LEFT_CALL:
        return line.tell_left()
    if call == PAID_CALL:
        return line.tell_paid()
    if call == UNDO_CALL:
        return line.undo()
    raise UnknownCall(call)

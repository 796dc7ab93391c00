"""Agreements, expressions and conditions as they are kept: as tuples of steps.

A step is (word, detail) and stands behind the steps of its parts, from the left:
pay 1 and give pay x is kept as the steps pay (detail: the steps of 1), pay (the steps
of x), give, and. So a loop with a stack goes through each of them, however deep it is.

The detail is the number of "number", the name of "name", the day of "at" and "may", the
expression of "pay" and "times", the condition of "if" and "stop"; of all others None.
"""

# How many parts each step has; a detail is no part.
PART_COUNTS = {
    "number": 0, "name": 0, "negative": 1, "+": 2, "-": 2, "*": 2, "max": 2, "min": 2,
    "<": 2, "=": 2, ">": 2, "not": 1, "&": 2, "|": 2,
    "nothing": 0, "pay": 0, "give": 1, "at": 1, "may": 1, "if": 2, "times": 1, "stop": 1,
    "and": 2, "or": 2, "else": 2,
}


def nothing():
    return (("nothing", None),)


def number_steps(number):
    """The expression that is just this number: below 0 a - and a number."""
    if number < 0:
        return (("number", -number), ("negative", None))
    return (("number", number),)


def joined(parts, step):
    """The steps of the parts (each a tuple of steps), then the step itself."""
    steps = ()
    for part in parts:
        steps = steps + part
    return steps + (step,)


def taken_parts(stack, word):
    """Takes from the stack what stands there for the parts of a step with this word, from the left."""
    parts = []
    for turn in range(PART_COUNTS[word]):
        parts.insert(0, stack.pop())
    return parts


def part_start(steps, last):
    """Where the part begins whose last step stands at the place last."""
    place = last + 1
    missing = 1
    while missing > 0:
        place -= 1
        missing += PART_COUNTS[steps[place][0]] - 1
    return place

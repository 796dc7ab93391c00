"""Writes agreements, expressions and conditions as texts."""

from dayagreement.steps import taken_parts

# How closely the tokens of a step belong together, as the grammar tells it. 2: they stand
# for a factor, for a condition without & and | around it, or for a part of a sum; 1: for
# a product, a part of a condition, or a sum; 0: for any expression, condition or agreement.
CLOSENESS = {
    "number": 2, "name": 2, "negative": 2, "max": 2, "min": 2, "*": 1, "+": 0, "-": 0,
    "<": 2, "=": 2, ">": 2, "not": 2, "&": 1, "|": 0,
    "nothing": 2, "pay": 2, "give": 2, "at": 2, "may": 2, "if": 2, "times": 2, "stop": 2,
    "and": 1, "or": 0, "else": 0,
}

# How close each part must be at least to stand without brackets. Those that are as close
# are read from the left, so what stands on the right must be closer than what it stands in.
PARTS_CLOSENESS = {
    "number": (), "name": (), "negative": (2,), "max": (0, 0), "min": (0, 0),
    "*": (1, 2), "+": (0, 1), "-": (0, 1),
    "<": (0, 0), "=": (0, 0), ">": (0, 0), "not": (2,), "&": (1, 2), "|": (0, 1),
    "nothing": (), "pay": (), "give": (2,), "at": (2,), "may": (2,), "if": (2, 2), "times": (2,), "stop": (2,),
    "and": (1, 2), "or": (0, 1), "else": (0, 1),
}


def written(steps):
    """The text of an agreement, an expression or a condition.

    It calls itself for the details of an agreement alone: these are expressions and
    conditions, which have no such details, so that goes no deeper than once.
    """
    stack = []
    for word, detail in steps:
        texts = []
        for part, closeness in zip(taken_parts(stack, word), PARTS_CLOSENESS[word]):
            texts.append(within_brackets(part[0], part[1], closeness))
        stack.append((word, step_text(word, detail, texts)))
    return stack[0][1]


def within_brackets(word, text, closeness):
    """The text of a part whose last step has this word, in brackets where it isn't as close as that."""
    if CLOSENESS[word] >= closeness:
        return text
    if word in ("&", "|"):
        return f"[{text}]"
    return f"({text})"


def step_text(word, detail, texts):
    if word == "number":
        return str(detail)
    if word == "name":
        return detail
    if word == "nothing":
        return word
    if word == "pay":
        amount = written(detail)
        return f"pay {amount}"
    if len(texts) == 1:
        return text_around_one(word, detail, texts[0])
    return text_around_two(word, detail, texts[0], texts[1])


def text_around_one(word, detail, text):
    if word == "negative":
        return f"-{text}"
    if word in ("at", "may"):
        return f"{word} {detail} {text}"
    if word in ("times", "stop"):
        reckoning = written(detail)
        return f"{word} {reckoning}: {text}"
    return f"{word} {text}"


def text_around_two(word, detail, first, second):
    if word in ("max", "min"):
        return f"{word}({first},{second})"
    if word == "if":
        condition = written(detail)
        return f"if {condition} then {first} otherwise {second}"
    return f"{first} {word} {second}"

"""Reads tokens as an agreement.

What is still to come is a stack of goals, so that no text nests too deep. A goal is a
token's kind, a rule's name, or ("make", word): a step to be made of what was read.
"""

from dayagreement.faults import Fault
from dayagreement.steps import joined, taken_parts

# The goals that a rule stands for, where the token that comes next tells which.
RULES_BY_TOKEN = {
    ("more sums", "or"): ("or", "sum", ("make", "or"), "more sums"),
    ("more sums", "else"): ("else", "sum", ("make", "else"), "more sums"),
    ("more parts", "and"): ("and", "part", ("make", "and"), "more parts"),
    ("part", "nothing"): ("nothing", ("make", "nothing")),
    ("part", "pay"): ("pay", "expression", ("make", "pay")),
    ("part", "give"): ("give", "part", ("make", "give")),
    ("part", "at"): ("at", "number", "part", ("make", "at")),
    ("part", "may"): ("may", "number", "part", ("make", "may")),
    ("part", "if"): ("if", "condition", "then", "part", "otherwise", "part", ("make", "if")),
    ("part", "times"): ("times", "expression", ":", "part", ("make", "times")),
    ("part", "stop"): ("stop", "condition", ":", "part", ("make", "stop")),
    ("part", "("): ("(", "agreement", ")"),
    ("more products", "+"): ("+", "product", ("make", "+"), "more products"),
    ("more products", "-"): ("-", "product", ("make", "-"), "more products"),
    ("more factors", "*"): ("*", "factor", ("make", "*"), "more factors"),
    ("factor", "number"): ("number", ("make", "number")),
    ("factor", "name"): ("name", ("make", "name")),
    ("factor", "-"): ("-", "factor", ("make", "negative")),
    ("factor", "max"): ("max", "(", "expression", ",", "expression", ")", ("make", "max")),
    ("factor", "min"): ("min", "(", "expression", ",", "expression", ")", ("make", "min")),
    ("factor", "("): ("(", "expression", ")"),
    ("more conjunctions", "|"): ("|", "conjunction", ("make", "|"), "more conjunctions"),
    ("more tests", "&"): ("&", "test", ("make", "&"), "more tests"),
    ("test", "not"): ("not", "test", ("make", "not")),
    ("test", "["): ("[", "condition", "]"),
    ("comparison", "<"): ("<", "expression", ("make", "<")),
    ("comparison", "="): ("=", "expression", ("make", "=")),
    ("comparison", ">"): (">", "expression", ("make", ">")),
}

# The goals that a rule stands for, where no such token comes next.
RULES = {
    "agreement": ("sum", "more sums"),
    "more sums": (),
    "sum": ("part", "more parts"),
    "more parts": (),
    "expression": ("product", "more products"),
    "more products": (),
    "product": ("factor", "more factors"),
    "more factors": (),
    "condition": ("conjunction", "more conjunctions"),
    "more conjunctions": (),
    "conjunction": ("test", "more tests"),
    "more tests": (),
    "test": ("expression", "comparison"),
}

WITH_DETAIL = ("number", "name", "pay", "at", "may", "if", "times", "stop")


def agreement_of(tokens):
    """The agreement that the tokens tell, as steps; raises Fault where they tell none."""
    goals = ["end", "agreement"]
    made = []
    next_token = 0
    while goals:
        goal = goals.pop()
        kind, value, place = tokens[next_token]
        if isinstance(goal, tuple):
            make_step(goal[1], made)
        elif goal == kind:
            next_token += 1
            if kind in ("number", "name"):
                made.append(value)
        else:
            put_goals(goals, goal, kind, place)
    return made[0]


def put_goals(goals, goal, kind, place):
    """Puts in the place of a rule the goals that it stands for."""
    if (goal, kind) in RULES_BY_TOKEN:
        found = RULES_BY_TOKEN[(goal, kind)]
    elif goal in RULES:
        found = RULES[goal]
    else:
        raise Fault(place)
    for inner in reversed(found):
        goals.append(inner)


def make_step(word, made):
    """Makes one of what was read last: the parts of the step, with its detail ahead of them."""
    parts = taken_parts(made, word)
    detail = None
    if word in WITH_DETAIL:
        detail = made.pop()
    made.append(joined(parts, (word, detail)))

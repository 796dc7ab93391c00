"""What expressions and conditions come to, with what is observed on a day."""

from dayagreement.steps import taken_parts


def reckoned(steps, seen):
    """The number of an expression, or whether a condition holds; seen has a number for each name."""
    stack = []
    for word, detail in steps:
        parts = taken_parts(stack, word)
        if word == "number":
            stack.append(detail)
        elif word == "name":
            stack.append(seen[detail])
        elif word == "negative":
            stack.append(-parts[0])
        elif word in ("not", "&", "|"):
            stack.append(settled(word, parts))
        elif word in ("<", "=", ">"):
            stack.append(compared(word, parts[0], parts[1]))
        else:
            stack.append(combined(word, parts[0], parts[1]))
    return stack[0]


def combined(word, left, right):
    if word == "+":
        return left + right
    if word == "-":
        return left - right
    if word == "*":
        return left * right
    if word == "max":
        return max(left, right)
    return min(left, right)


def compared(word, left, right):
    if word == "<":
        return left < right
    if word == "=":
        return left == right
    return left > right


def settled(word, parts):
    if word == "not":
        return not parts[0]
    if word == "&":
        return parts[0] and parts[1]
    return parts[0] or parts[1]

"""A second, plain telling of the document, to hold the program's answers against.

Agreements are nested tuples here, gone through by functions that call themselves; what is
chosen is settled where it stands, and undo goes over all calls but the last once more.
"""

NO_NAMES = "nothing pay give at may if then otherwise times stop and or else max min not".split()


# What is written.

def agreement_tokens(tree):
    if tree[0] in ("or", "else"):
        return agreement_tokens(tree[1]) + [tree[0]] + sum_tokens(tree[2])
    return sum_tokens(tree)


def sum_tokens(tree):
    if tree[0] == "and":
        return sum_tokens(tree[1]) + ["and"] + part_tokens(tree[2])
    return part_tokens(tree)


def part_tokens(tree):
    word = tree[0]
    if word in ("and", "or", "else"):
        return ["("] + agreement_tokens(tree) + [")"]
    if word == "nothing":
        return ["nothing"]
    if word == "pay":
        return ["pay"] + expression_tokens(tree[1])
    if word == "give":
        return ["give"] + part_tokens(tree[1])
    if word in ("at", "may"):
        return [word, str(tree[1])] + part_tokens(tree[2])
    if word == "times":
        return ["times"] + expression_tokens(tree[1]) + [":"] + part_tokens(tree[2])
    if word == "stop":
        return ["stop"] + condition_tokens(tree[1]) + [":"] + part_tokens(tree[2])
    return ["if"] + condition_tokens(tree[1]) + ["then"] + part_tokens(tree[2]) + ["otherwise"] + part_tokens(tree[3])


def condition_tokens(tree):
    if tree[0] == "|":
        return condition_tokens(tree[1]) + ["|"] + conjunction_tokens(tree[2])
    return conjunction_tokens(tree)


def conjunction_tokens(tree):
    if tree[0] == "&":
        return conjunction_tokens(tree[1]) + ["&"] + test_tokens(tree[2])
    return test_tokens(tree)


def test_tokens(tree):
    if tree[0] in ("&", "|"):
        return ["["] + condition_tokens(tree) + ["]"]
    if tree[0] == "not":
        return ["not"] + test_tokens(tree[1])
    return expression_tokens(tree[1]) + [tree[0]] + expression_tokens(tree[2])


def expression_tokens(tree):
    if tree[0] in ("+", "-"):
        return expression_tokens(tree[1]) + [tree[0]] + product_tokens(tree[2])
    return product_tokens(tree)


def product_tokens(tree):
    if tree[0] == "*":
        return product_tokens(tree[1]) + ["*"] + factor_tokens(tree[2])
    return factor_tokens(tree)


def factor_tokens(tree):
    word = tree[0]
    if word in ("+", "-", "*"):
        return ["("] + expression_tokens(tree) + [")"]
    if word in ("number", "name"):
        return [str(tree[1])]
    if word == "negative":
        # Two signs, to be told apart from the one between products.
        return ["--"] + factor_tokens(tree[1])
    return [word, "("] + expression_tokens(tree[1]) + [","] + expression_tokens(tree[2]) + [")"]


def spaced(tokens):
    text = ""
    for place, token in enumerate(tokens):
        before = tokens[place - 1] if place > 0 else None
        if before is not None and token not in (",", ":", ")", "]"):
            if before not in (",", "(", "[", "max", "min", "--"):
                text += " "
        text += "-" if token == "--" else token
    return text


def written(tree):
    return spaced(agreement_tokens(tree))


def names_in(tokens):
    names = []
    for token in tokens:
        if token.isalpha() and token not in NO_NAMES and token not in names:
            names.append(token)
    return names


# What becomes of it on a day.

def value(tree, seen):
    word = tree[0]
    if word == "number":
        return tree[1]
    if word == "name":
        return seen[tree[1]]
    if word == "negative":
        return -value(tree[1], seen)
    one, two = value(tree[1], seen), value(tree[2], seen)
    return {"+": one + two, "-": one - two, "*": one * two, "max": max(one, two), "min": min(one, two)}[word]


def holds(tree, seen):
    word = tree[0]
    if word == "not":
        return not holds(tree[1], seen)
    if word in ("&", "|"):
        one, two = holds(tree[1], seen), holds(tree[2], seen)
        return one and two if word == "&" else one or two
    one, two = value(tree[1], seen), value(tree[2], seen)
    return {"<": one < two, "=": one == two, ">": one > two}[word]


def both(one, two):
    if one == ("nothing",):
        return two
    if two == ("nothing",):
        return one
    return ("and", one, two)


def around(word, detail, left):
    if left == ("nothing",):
        return left
    return (word, left) if word == "give" else (word, detail, left)


def number_tree(number):
    return ("negative", ("number", -number)) if number < 0 else ("number", number)


def gone_through(tree, day, seen):
    word = tree[0]
    if word == "pay":
        return ("nothing",), value(tree[1], seen)
    if word == "and":
        one, one_paid = gone_through(tree[1], day, seen)
        two, two_paid = gone_through(tree[2], day, seen)
        return both(one, two), one_paid + two_paid
    if word == "at":
        return gone_through(tree[2], day, seen) if tree[1] <= day else (tree, 0)
    if word == "may":
        return (("nothing",), 0) if tree[1] < day else (tree, 0)
    if word == "if":
        return gone_through(tree[2] if holds(tree[1], seen) else tree[3], day, seen)
    if word == "give":
        left, paid = gone_through(tree[1], day, seen)
        return around("give", None, left), -paid
    if word == "times":
        factor = value(tree[1], seen)
        if factor == 0:
            return ("nothing",), 0
        left, paid = gone_through(tree[2], day, seen)
        return around("times", number_tree(factor), left), factor * paid
    if word == "stop":
        if holds(tree[1], seen):
            return ("nothing",), 0
        left, paid = gone_through(tree[2], day, seen)
        return around("stop", tree[1], left), paid
    return tree, 0


def waiting(tree, other=False):
    """For each that waits: whether it may be begun, and whether it is the other side's."""
    word = tree[0]
    if word in ("or", "else"):
        return [(False, other != (word == "else"))]
    if word == "may":
        return [(True, other)]
    if word == "give":
        return waiting(tree[1], not other)
    if word in ("times", "stop"):
        return waiting(tree[2], other)
    if word == "and":
        return waiting(tree[1], other) + waiting(tree[2], other)
    return []


def settled(tree, number, which, day, seen):
    """What is left, and what is paid, when of the one of that number the first or second is taken."""
    word = tree[0]
    if word in ("or", "else"):
        return gone_through(tree[1 + which], day, seen)
    if word == "may":
        return gone_through(tree[2], day, seen)
    if word == "and":
        count = len(waiting(tree[1]))
        if number < count:
            left, paid = settled(tree[1], number, which, day, seen)
            return both(left, tree[2]), paid
        left, paid = settled(tree[2], number - count, which, day, seen)
        return both(tree[1], left), paid
    if word == "give":
        left, paid = settled(tree[1], number, which, day, seen)
        return around("give", None, left), -paid
    left, paid = settled(tree[2], number, which, day, seen)
    return around(word, tree[1], left), paid * value(tree[1], {}) if word == "times" else paid


class Model:
    """What a line's calls answer; open takes the agreement as a tree, with its names."""

    def __init__(self):
        self.moves = []
        self.kept = 0
        self.opened = None
        self.go_back()

    def go_back(self):
        """Stands as it did behind open."""
        if self.opened is not None:
            self.tree, self.names, self.next_day = self.opened
        self.seen = None
        self.paid = []

    def open(self, day, tree, names):
        self.opened = (tree, names, day)
        self.moves = []
        self.kept = 0
        self.go_back()
        answer = [len(names)]
        for name in names:
            answer += [len(name)] + list(name.encode())
        return answer

    def refused(self):
        if self.opened is None:
            return [-9]
        return [-4] if self.seen is None else None

    def day(self, numbers):
        if self.opened is None:
            return [-9]
        if len(numbers) != len(self.names):
            return [-1]
        if self.seen is not None and not all(may for may, other in waiting(self.tree)):
            return [-6]
        return self.moved(("day", numbers))

    def waits(self):
        refused = self.refused()
        if refused:
            return refused
        found = waiting(self.tree)
        return [len(found)] + [int(number) for one in found for number in one]

    def choose(self, number, which):
        if which > 1:
            return [-1]
        return self.refused_of(number, False) or self.moved(("settle", number, which))

    def begin(self, number):
        return self.refused_of(number, True) or self.moved(("settle", number, 0))

    def refused_of(self, number, may):
        refused = self.refused()
        if refused:
            return refused
        found = waiting(self.tree)
        if number >= len(found):
            return [-2]
        return None if found[number][0] == may else [-3]

    def left(self):
        if self.opened is None:
            return [-9]
        text = written(self.tree)
        return [len(text)] + list(text.encode())

    def told_paid(self):
        if self.opened is None:
            return [-9]
        return [len(self.paid)] + [number for one in self.paid for number in one]

    def undo(self):
        if self.kept == 0:
            return [-7]
        self.kept -= 1
        moves = self.moves[:-1]
        self.go_back()
        self.moves = moves
        for move in moves:
            self.do(move)
        return [self.kept]

    def moved(self, move):
        self.moves.append(move)
        self.kept = min(self.kept + 1, 32)
        return self.do(move)

    def do(self, move):
        if move[0] == "day":
            self.seen = dict(zip(self.names, move[1]))
            self.tree, paid = gone_through(self.tree, self.next_day, self.seen)
            self.paid.append((self.next_day, paid))
            self.next_day += 1
            return [self.next_day - 1, paid]
        self.tree, paid = settled(self.tree, move[1], move[2], self.next_day - 1, self.seen)
        day, before = self.paid.pop()
        self.paid.append((day, before + paid))
        return [0, paid]

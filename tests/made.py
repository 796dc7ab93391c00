"""Makes agreements and their texts by chance, each time the same ones for the same seed."""

from tests import model

NAMES = ("a", "bc", "rain", "maxi", "z")


class Maker:
    def __init__(self, chance):
        self.chance = chance
        self.first_day = 0

    def expression(self, depth):
        chance = self.chance
        if depth <= 0 or chance.random() < 0.3:
            if chance.random() < 0.5:
                return ("name", chance.choice(NAMES))
            return ("number", chance.choice((0, 1, 2, 3, 10, 9999999, chance.randrange(100))))
        word = chance.choice(("+", "-", "*", "max", "min", "negative"))
        if word == "negative":
            return (word, self.expression(depth - 1))
        return (word, self.expression(depth - 1), self.expression(depth - 1))

    def condition(self, depth):
        chance = self.chance
        if depth <= 0 or chance.random() < 0.4:
            return (chance.choice(("<", "=", ">")), self.expression(depth - 1), self.expression(depth - 1))
        word = chance.choice(("&", "|", "not"))
        if word == "not":
            return (word, self.condition(depth - 1))
        return (word, self.condition(depth - 1), self.condition(depth - 1))

    def agreement(self, depth):
        chance = self.chance
        if depth <= 0 or chance.random() < 0.1:
            return ("nothing",) if chance.random() < 0.2 else ("pay", self.expression(2))
        word = chance.choice(
            ("and", "and", "and", "or", "else", "at", "may", "may", "if", "give", "times", "stop")
        )
        if word in ("and", "or", "else"):
            return (word, self.agreement(depth - 1), self.agreement(depth - 1))
        if word in ("at", "may"):
            return (word, self.first_day + chance.randrange(6), self.agreement(depth - 1))
        if word == "give":
            return (word, self.agreement(depth - 1))
        if word == "times":
            return (word, self.expression(2), self.agreement(depth - 1))
        if word == "stop":
            return (word, self.condition(1), self.agreement(depth - 1))
        return (word, self.condition(1), self.agreement(depth - 1), self.agreement(depth - 1))

    def fitting_agreement(self):
        """An agreement and a text of 200 bytes at most that tells it."""
        while True:
            tree = self.agreement(self.chance.randrange(1, 6))
            tokens = model.agreement_tokens(tree)
            for text in (self.loose_text(tree), model.spaced(tokens)):
                if len(text) <= 200:
                    return tree, text, model.names_in(tokens)

    def loose_text(self, tree):
        """A text of it with needless brackets, and with blanks or none."""
        tokens = self.loose_tokens(tree, "(", ")", 0)
        text = " " * self.chance.randrange(2)
        for place, token in enumerate(tokens):
            blanks = self.chance.choice((0, 0, 1, 2))
            if place > 0 and blanks == 0:
                one, two = tokens[place - 1], token
                if (one.isalpha() and two.isalpha()) or (one.isdigit() and two.isdigit()):
                    blanks = 1
            text += " " * blanks + token
        return text

    def loose_tokens(self, tree, opening, closing, needed):
        """The tokens, in brackets where it is looser than needed, and now and then where it isn't."""
        word = tree[0]
        if word in ("number", "name"):
            tokens, closeness = [str(tree[1])], 2
        elif word in ("+", "-", "*", "&", "|", "and", "or", "else"):
            closeness = 1 if word in ("*", "&", "and") else 0
            tokens = self.loose_tokens(tree[1], opening, closing, closeness) + [word]
            tokens += self.loose_tokens(tree[2], opening, closing, closeness + 1)
        else:
            tokens, closeness = self.close_tokens(tree), 2
        if closeness < needed or (self.chance.random() < 0.1 and word not in ("number", "name")):
            return [opening] + tokens + [closing]
        return tokens

    def close_tokens(self, tree):
        word = tree[0]
        if word == "nothing":
            return [word]
        if word == "negative":
            return ["-"] + self.loose_tokens(tree[1], "(", ")", 2)
        if word in ("max", "min"):
            one, two = [self.loose_tokens(part, "(", ")", 0) for part in tree[1:]]
            return [word, "("] + one + [","] + two + [")"]
        if word in ("<", "=", ">"):
            one, two = [self.loose_tokens(part, "(", ")", 0) for part in tree[1:]]
            return one + [word] + two
        if word == "not":
            return [word] + self.loose_tokens(tree[1], "[", "]", 2)
        if word == "pay":
            return [word] + self.loose_tokens(tree[1], "(", ")", 0)
        if word == "give":
            return [word] + self.loose_tokens(tree[1], "(", ")", 2)
        if word in ("at", "may"):
            return [word, str(tree[1])] + self.loose_tokens(tree[2], "(", ")", 2)
        if word == "times":
            return [word] + self.loose_tokens(tree[1], "(", ")", 0) + [":"] + self.loose_tokens(tree[2], "(", ")", 2)
        condition = self.loose_tokens(tree[1], "[", "]", 0)
        if word == "stop":
            return [word] + condition + [":"] + self.loose_tokens(tree[2], "(", ")", 2)
        one, two = [self.loose_tokens(part, "(", ")", 2) for part in tree[2:]]
        return [word] + condition + ["then"] + one + ["otherwise"] + two

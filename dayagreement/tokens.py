"""Cuts a text into tokens.

A token is (kind, value, place). The kind of a name is "name", that of a number is
"number", that of a sign or of a word that is no name is the sign or word itself.
Behind the last one stands a token of the kind "end", at the place behind all bytes.
"""

from dayagreement.faults import Fault

LETTERS = "abcdefghijklmnopqrstuvwxyz"
FIRST_LETTER = 97
FIRST_DIGIT = 48
BLANK = 32
SIGNS = {
    40: "(", 41: ")", 91: "[", 93: "]", 44: ",", 58: ":", 43: "+",
    45: "-", 42: "*", 60: "<", 61: "=", 62: ">", 38: "&", 124: "|",
}
NO_NAMES = (
    "nothing", "pay", "give", "at", "may", "if", "then", "otherwise",
    "times", "stop", "and", "or", "else", "max", "min", "not",
)
LONGEST_WORD = 8
LONG_WORD = "otherwise"
LONGEST_NUMBER = 7


def tokens_of(text):
    """The tokens of a text (a list of bytes); raises Fault at the first one that is none."""
    tokens = []
    place = 0
    while place < len(text):
        byte = text[place]
        behind = place + 1
        if is_letter(byte):
            behind = word_end(text, place)
            tokens.append(word_token(text, place, behind))
        elif is_digit(byte):
            behind = number_end(text, place)
            tokens.append(number_token(text, place, behind))
        elif byte in SIGNS:
            tokens.append((SIGNS[byte], SIGNS[byte], place))
        elif byte != BLANK:
            raise Fault(place)
        place = behind
    tokens.append(("end", "", len(text)))
    return tokens


def is_letter(byte):
    return FIRST_LETTER <= byte < FIRST_LETTER + 26


def is_digit(byte):
    return FIRST_DIGIT <= byte < FIRST_DIGIT + 10


def word_end(text, place):
    while place < len(text) and is_letter(text[place]):
        place += 1
    return place


def number_end(text, place):
    while place < len(text) and is_digit(text[place]):
        place += 1
    return place


def word_token(text, place, behind):
    word = "".join([LETTERS[byte - FIRST_LETTER] for byte in text[place:behind]])
    if len(word) > LONGEST_WORD and word != LONG_WORD:
        raise Fault(place)
    if word in NO_NAMES:
        return (word, word, place)
    return ("name", word, place)


def number_token(text, place, behind):
    length = behind - place
    if length > LONGEST_NUMBER or (length > 1 and text[place] == FIRST_DIGIT):
        raise Fault(place)
    value = 0
    for byte in text[place:behind]:
        value = value * 10 + byte - FIRST_DIGIT
    return ("number", value, place)


def names_of(tokens):
    """The names among the tokens, in the order in which they come first."""
    names = []
    for kind, value, place in tokens:
        if kind == "name" and value not in names:
            names.append(value)
    return names

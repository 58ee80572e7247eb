"""A text's lines, their words, and the clauses (laws and rules) and weights that they tell."""

from rulechange.refusals import NoCase

LETTERS = "abcdefghijklmnopqrstuvwxyz"
NAME_SIGNS = "abcdefghijklmnopqrstuvwxyz0123456789-"
SIGNS = "abcdefghijklmnopqrstuvwxyz0123456789-~:,>= \n"
MOST_NAME_SIGNS = 15
MOST_BODY_LITERALS = 6


class Clause:
    def __init__(self, name, body, head):
        self.name = name
        self.body = body
        self.head = head


def split_lines(t):
    lines = signs_of(t).split("\n")
    # Behind the last line feed nothing may stand: it would be a line without its end.
    if lines[-1] != "":
        raise NoCase()
    return lines[:-1]


def signs_of(t):
    sign_of_byte = {}
    for sign in SIGNS:
        sign_of_byte[ord(sign)] = sign
    signs = []
    for byte in t:
        # No line has a place for any other byte.
        if byte not in sign_of_byte:
            raise NoCase()
        signs.append(sign_of_byte[byte])
    return "".join(signs)


def read_clause(words, arrow):
    if len(words) < 4 or not words[1].endswith(":") or words[-2] != arrow:
        raise NoCase()
    name = words[1][:-1]
    if not is_name(name) or not is_literal(words[-1]):
        raise NoCase()
    return Clause(name, read_body(words[2:-2]), words[-1])


def read_body(words):
    if len(words) > MOST_BODY_LITERALS:
        raise NoCase()
    body = []
    for place, word in enumerate(words, start=1):
        literal = word
        if place < len(words):
            literal = without_comma(word)
        if not is_literal(literal):
            raise NoCase()
        body.append(literal)
    return body


def without_comma(word):
    if not word.endswith(","):
        raise NoCase()
    return word[:-1]


def read_weight(words):
    if len(words) != 4 or words[2] != ">" or not is_name(words[1]) or not is_name(words[3]):
        raise NoCase()
    return (words[1], words[3])


def is_name(word):
    if len(word) < 1 or len(word) > MOST_NAME_SIGNS or word[0] not in LETTERS:
        return False
    return all([sign in NAME_SIGNS for sign in word])


def is_literal(word):
    return is_name(atom_of(word))


def is_opposite(literal):
    return literal.startswith("~")


def atom_of(literal):
    if is_opposite(literal):
        return literal[1:]
    return literal

"""Formulas, read as the truth functions that they say.

A truth function of n variables is one whole number with a bit for every list of truths. The bit's number is the
list read as a number in base two with the first variable first, so that the upper half of the bits belongs to the
first variable true, and the upper half of each half to the second variable true, and so on.
"""

from truthcircuitsdesk.faults import NAME_UNKNOWN, NOT_ALLOWED, TOO_MANY, Fault
from truthcircuitsdesk.reader import Reader
from truthcircuitsdesk.words import END, WORD, is_name

DEEPEST = 24

PART_COUNTS = {"not": 1, "and": 2, "or": 2, "eq": 2, "if": 3}


class Scope:
    def __init__(self, names):
        self.yes = (1 << (1 << len(names))) - 1
        self.tables = {}
        for number, name in enumerate(names):
            self.tables[name] = variable_table(number, len(names))


def variable_table(number, how_many):
    half = 1 << (how_many - 1 - number)
    width = 2 * half
    table = ((1 << half) - 1) << half
    while width < (1 << how_many):
        table = table | (table << width)
        width = 2 * width
    return table


def combine(word, parts, yes):
    if word == "not":
        return yes ^ parts[0]
    if word == "and":
        return parts[0] & parts[1]
    if word == "or":
        return parts[0] | parts[1]
    if word == "eq":
        return yes ^ parts[0] ^ parts[1]
    return (parts[0] & parts[1]) | ((yes ^ parts[0]) & parts[2])


def read_parts(reader, scope, how_many, inside):
    reader.take_sign("(")
    parts = [read_formula(reader, scope, inside)]
    while len(parts) < how_many:
        reader.take_sign(",")
        parts.append(read_formula(reader, scope, inside))
    reader.take_sign(")")
    return parts


def read_alone(token, scope):
    if token.said == "true":
        return scope.yes
    if token.said == "false":
        return 0
    if not is_name(token):
        raise Fault(NOT_ALLOWED, token.place)
    if token.said not in scope.tables:
        raise Fault(NAME_UNKNOWN, token.place)
    return scope.tables[token.said]


# A variable may be named like what takes parts, so only a ( behind such a word tells which of the two it is; if is
# no name and always takes parts.
def read_formula(reader, scope, inside):
    if inside == DEEPEST:
        raise Fault(TOO_MANY, reader.token().place)
    token = reader.take_kind(WORD)
    opens = reader.is_at_sign("(")
    if token.said == "if" or (opens and token.said in PART_COUNTS):
        parts = read_parts(reader, scope, PART_COUNTS[token.said], inside + 1)
        return combine(token.said, parts, scope.yes)
    if opens and is_name(token):
        raise Fault(NOT_ALLOWED, token.place)
    return read_alone(token, scope)


def function_of(text, names):
    reader = Reader(text)
    table = read_formula(reader, Scope(names), 0)
    reader.take_kind(END)
    return table

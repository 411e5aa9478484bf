"""Variables and their chances, as a text tells them."""

from truthcircuitsdesk.faults import NAME_TAKEN, OUT_OF_RANGE, TOO_MANY, Fault
from truthcircuitsdesk.ratios import lowest_terms
from truthcircuitsdesk.reader import Reader
from truthcircuitsdesk.words import NUMBER

MOST_VARIABLES = 12


class Variables:
    def __init__(self):
        self.names = []
        self.chances = []


def read_new_name(reader, names):
    token = reader.take_name()
    if len(names) == MOST_VARIABLES:
        raise Fault(TOO_MANY, token.place)
    if token.said in names:
        raise Fault(NAME_TAKEN, token.place)
    return token.said


def read_denominator(reader):
    if not reader.is_at_sign("/"):
        return 1
    reader.take_sign("/")
    token = reader.take_kind(NUMBER)
    if token.said < 1:
        raise Fault(OUT_OF_RANGE, token.place)
    return token.said


def read_chance(reader):
    first = reader.take_kind(NUMBER)
    bottom = read_denominator(reader)
    if first.said < 0 or first.said > bottom:
        raise Fault(OUT_OF_RANGE, first.place)
    return lowest_terms(first.said, bottom)


def read_variable(reader, variables):
    variables.names.append(read_new_name(reader, variables.names))
    reader.take_sign(":")
    variables.chances.append(read_chance(reader))


def variables_of(text):
    reader = Reader(text)
    variables = Variables()
    read_variable(reader, variables)
    while not reader.is_at_end():
        reader.take_sign(",")
        read_variable(reader, variables)
    return variables

"""What is wrong with a text: a code and a place."""

TOO_MANY_BYTES = 1
NO_TOKEN = 2
NOT_ALLOWED = 3
TOO_MANY = 4
NAME_TAKEN = 5
NAME_UNKNOWN = 6
OUT_OF_RANGE = 7


class Fault(ValueError):
    def __init__(self, code, place):
        self.code = code
        self.place = place

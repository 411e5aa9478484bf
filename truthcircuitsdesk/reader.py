"""Going through the tokens of a text from left to right."""

from truthcircuitsdesk.faults import NOT_ALLOWED, Fault
from truthcircuitsdesk.words import END, SIGN, is_name, tokens_of


class Reader:
    def __init__(self, text):
        self.tokens = tokens_of(text)
        self.at = 0

    def token(self):
        return self.tokens[self.at]

    def is_at_end(self):
        return self.token().kind == END

    def is_at_sign(self, sign):
        return self.token().kind == SIGN and self.token().said == sign

    def refuse(self):
        raise Fault(NOT_ALLOWED, self.token().place)

    def step(self):
        token = self.token()
        self.at += 1
        return token

    def take_kind(self, kind):
        if self.token().kind != kind:
            self.refuse()
        return self.step()

    def take_sign(self, sign):
        if not self.is_at_sign(sign):
            self.refuse()
        return self.step()

    def take_name(self):
        if not is_name(self.token()):
            self.refuse()
        return self.step()

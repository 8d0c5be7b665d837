"""The refusals, each with the number that is answered for it."""

TOKEN_BASE = 100
RULE_BASE = 1000000


class Refusal(Exception):
    def __init__(self, answer):
        self.answer = answer


class TooLong(Refusal):
    def __init__(self):
        Refusal.__init__(self, -1)


class WrongNumber(Refusal):
    def __init__(self):
        Refusal.__init__(self, -2)


class NoNode(Refusal):
    def __init__(self):
        Refusal.__init__(self, -3)


class WrongGiven(Refusal):
    def __init__(self):
        Refusal.__init__(self, -4)


class PastLimit(Refusal):
    def __init__(self):
        Refusal.__init__(self, -5)


class WrongToken(Refusal):
    def __init__(self, place):
        Refusal.__init__(self, 0 - TOKEN_BASE - place)


class BrokenRule(Refusal):
    def __init__(self, place):
        Refusal.__init__(self, 0 - RULE_BASE - place)

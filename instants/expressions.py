"""Reading expressions, with a list of what's begun and not ended in the place of calls within calls."""

from instants.parts import Call, First, Part
from instants.refusals import PastLimit

MOST_DEPTH = 64
MOST_OPERATORS = 4096
MOST_GIVEN = 64

# How much each operator between two binds: more is tighter.
LEVELS = {
    "->": 1, "fby": 1, "=>": 2, "or": 3, "xor": 3, "and": 4,
    "=": 5, "<>": 5, "<": 5, "<=": 5, ">": 5, ">=": 5,
    "+": 6, "-": 6, "*": 7, "/": 7, "mod": 7,
}
COMPARING = 5
FROM_THE_LEFT = (3, 4, 6, 7)

PREFIXES = {"-": "negate", "not": "not", "pre": "pre"}
OPERANDS = ("name", "number", "true", "false")


# Something begun that waits for its end. `stage` is "right" for the right side of an operator
# between two (`level` is its own), "one" where just one operand is waited for (behind a prefix
# or `every`), "given" within a call's ( ), else the token that must come: ")", "then", "else",
# or "" for the last part of an if, which nothing of its own ends.
class Pending:
    def __init__(self, stage, part, level):
        self.stage = stage
        self.part = part
        self.level = level


# Reads the expressions of one node: what they have of operators is counted together.
class Builder:
    def __init__(self, reader):
        self.reader = reader
        self.operators = 0
        self.depth = 0
        self.pending = []
        self.code = []

    def expression(self):
        self.code = []
        waiting = True
        while waiting:
            self.read_operand()
            waiting = self.goes_on()
        return self.code

    def add_operator(self):
        if self.operators == MOST_OPERATORS:
            raise PastLimit()
        self.operators += 1

    def nest(self, stage, part):
        if self.depth == MOST_DEPTH:
            raise PastLimit()
        self.depth += 1
        self.pending.append(Pending(stage, part, 0))

    def end_nest(self):
        self.depth -= 1
        ended = self.pending.pop()
        if ended.part is not None:
            self.code.append(ended.part)

    def read_operand(self):
        whole = False
        while not whole:
            whole = self.read_begin()

    # Answers whether an operand is whole with what was read.
    def read_begin(self):
        kind = self.reader.token().kind
        if kind in PREFIXES:
            self.read_prefix(kind)
        elif kind == "(":
            self.reader.take("(")
            self.nest(")", None)
        elif kind == "if":
            token = self.reader.take("if")
            self.add_operator()
            self.nest("then", Part("if", token.place, 3, None))
        elif kind in ("reset", "activate"):
            self.read_way(kind)
        else:
            return self.read_plain()
        return False

    def read_prefix(self, kind):
        token = self.reader.take(kind)
        self.add_operator()
        self.nest("one", Part(PREFIXES[kind], token.place, 1, None))

    # What's begun counts before the name is looked at: the limits are passed by the first token.
    def read_way(self, way):
        token = self.reader.take(way)
        self.add_operator()
        part = Part("call", token.place, 1, None)
        self.nest("given", part)
        name = self.reader.take("name")
        part.place = name.place
        part.worth = Call(name.text, way)
        self.reader.take("(")

    def read_plain(self):
        token = self.reader.take_one_of(OPERANDS)
        if token.kind == "name" and self.reader.sees("("):
            self.add_operator()
            self.nest("given", Part("call", token.place, 1, Call(token.text, "")))
            self.reader.take("(")
            return False
        worth = int(token.text) if token.kind == "number" else token.text
        self.code.append(Part(token.kind, token.place, 0, worth))
        return True

    # Behind a whole operand; answers whether another one must follow.
    def goes_on(self):
        while True:
            self.end_ones()
            level = LEVELS.get(self.reader.token().kind, 0)
            if level > 0 and self.may_stand(level):
                self.read_between(level)
                return True
            self.end_rights(1)
            if len(self.pending) == 0:
                return False
            if self.reads_on(self.pending[-1]):
                return True

    def end_ones(self):
        while len(self.pending) > 0 and self.pending[-1].stage == "one":
            part = self.pending[-1].part
            if part.what == "call" and part.worth.way == "activate":
                self.read_firsts(part.worth)
            self.end_nest()

    # Ends the operators between two that bind so much or more and wait for nothing else.
    def end_rights(self, level):
        while len(self.pending) > 0 and self.pending[-1].stage == "right" and self.pending[-1].level >= level:
            self.code.append(self.pending.pop().part)

    # Of what compares there is one between two. Behind an if whose last part compares already
    # another may stand all the same: that part can't be longer, and the whole if is compared.
    def may_stand(self, level):
        if level != COMPARING:
            return True
        self.end_rights(COMPARING + 1)
        return len(self.pending) == 0 or self.pending[-1].level != COMPARING

    def read_between(self, level):
        token = self.reader.token()
        self.add_operator()
        self.reader.take(token.kind)
        self.end_rights(level if level in FROM_THE_LEFT else level + 1)
        self.pending.append(Pending("right", Part(token.kind, token.place, 2, None), level))

    # Goes on in the innermost thing begun, or ends it; answers whether an operand must follow.
    def reads_on(self, pending):
        if pending.stage == "given":
            return self.reads_on_call(pending)
        if pending.stage != "":
            self.reader.take(pending.stage)
        if pending.stage == "then":
            pending.stage = "else"
            return True
        if pending.stage == "else":
            pending.stage = ""
            return True
        self.end_nest()
        return False

    def reads_on_call(self, pending):
        part = pending.part
        if self.reader.sees(","):
            self.reader.take(",")
            if part.size == MOST_GIVEN:
                raise PastLimit()
            part.size += 1
            return True
        self.reader.take(")")
        if part.worth.way == "":
            self.end_nest()
            return False
        self.reader.take("every")
        part.size += 1
        pending.stage = "one"
        return True

    def read_firsts(self, call):
        self.reader.take("initial")
        self.reader.take("(")
        call.firsts.append(self.read_first())
        while self.reader.sees(","):
            self.reader.take(",")
            if len(call.firsts) == MOST_GIVEN:
                raise PastLimit()
            call.firsts.append(self.read_first())
        self.reader.take(")")

    def read_first(self):
        if self.reader.sees("-"):
            self.reader.take("-")
            return First("int", 0 - int(self.reader.take("number").text))
        token = self.reader.take_one_of(("number", "true", "false"))
        if token.kind == "number":
            return First("int", int(token.text))
        return First("bool", 1 if token.kind == "true" else 0)

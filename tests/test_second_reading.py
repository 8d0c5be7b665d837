"""A second reading of the document, as plain as can be and slow, held against `order` on many small texts.

The tokens come by a regular expression, wrong ones are found by a chart of the grammar as the document
writes it (so nothing is read ahead or decided on the way), expressions are trees gone through by functions
that call themselves. Limits aren't looked at here.
"""

import random
import re
import unittest

from helper import bytes_of
from instants.streams import order

TOKEN = re.compile(r"[A-Za-z_][A-Za-z_0-9]*|[0-9]+|<=|>=|<>|->|=>|[(),;:=<>+*/-]")
BLANK = re.compile(r"(?:[\t\n\r ]|--[^\n]*)+")
NOT_NAMES = (
    "node returns var let tel int bool true false not and or xor mod if then else pre fby activate reset"
    " every initial"
).split()

GRAMMAR = """
text: node | text node
node: node_ name ( names ) returns ( names ) ; var names ; let equations tel
node: node_ name ( names ) returns ( names ) ; let equations tel
names: alike | names ; alike
alike: list : int | list : bool
list: name | list , name
equations: equation | equations equation
equation: name = e ; | ( name , list ) = e ;
e: e2 | e2 -> e | e2 fby e
e2: e3 | e3 => e2
e3: e4 | e3 or e4 | e3 xor e4
e4: e5 | e4 and e5
e5: e6 | e6 = e6 | e6 <> e6 | e6 < e6 | e6 <= e6 | e6 > e6 | e6 >= e6
e6: e7 | e6 + e7 | e6 - e7
e7: u | e7 * u | e7 / u | e7 mod u
u: one | not u | - u | pre u
one: number | true | false | name | ( e ) | if e then e else e | name ( es )
one: reset name ( es ) every u | activate name ( es ) every u initial ( values )
es: e | es , e
values: value | values , value
value: number | - number | true | false
"""


def grammar():
    rules = {}
    for row in GRAMMAR.strip().splitlines():
        head, choices = row.split(": ", 1)
        rules.setdefault(head, []).extend(tuple(choice.split()) for choice in choices.split(" | "))
    return rules


RULES = grammar()


def scan(text):
    """Tokens as (kind, place, text); the last is the end or a byte that begins none."""
    found = []
    place = 0
    while True:
        blank = BLANK.match(text, place)
        place = blank.end() if blank else place
        if place == len(text):
            return found + [("end", place, "")]
        token = TOKEN.match(text, place)
        if not token:
            return found + [("strange", place, "")]
        word = token.group()
        kind = word
        if word[0].isdigit():
            kind = "number"
        elif word == "node":
            kind = "node_"
        elif (word[0].isalpha() or word[0] == "_") and word not in NOT_NAMES:
            kind = "name"
        found.append((kind, place, word))
        place = token.end()


def predicted(sets, items):
    """Closes a set of the chart: (head, choice, how far, where begun)."""
    items = list(dict.fromkeys(items))
    known = set(items)
    here = len(sets)
    for head, choice, far, begun in items:
        new = []
        if far < len(choice):
            if choice[far] in RULES:
                new = [(choice[far], other, 0, here) for other in RULES[choice[far]]]
        else:
            source = items if begun == here else sets[begun]
            new = [(h, c, f + 1, b) for h, c, f, b in source if f < len(c) and c[f] == head]
        for item in new:
            if item not in known:
                known.add(item)
                items.append(item)
    return items


def first_wrong(tokens):
    """The place of the first token that can't stand where it does, or None."""
    sets = []
    items = [("text", choice, 0, 0) for choice in RULES["text"]]
    for kind, place, _ in tokens:
        items = predicted(sets, items)
        if kind == "end":
            whole = any(h == "text" and f == len(c) and b == 0 for h, c, f, b in items)
            return None if whole else place
        sets.append(items)
        items = [(h, c, f + 1, b) for h, c, f, b in items if f < len(c) and c[f] == kind]
        if not items:
            return place
    return None


class Trees:
    """Reads a text that's known to have no wrong token; a tree is (what, place, parts, more)."""

    LEFT = (("or", "xor"), ("and",), None, ("+", "-"), ("*", "/", "mod"))

    def __init__(self, tokens):
        self.tokens = tokens
        self.at = 0

    def sees(self, *kinds):
        return self.tokens[self.at][0] in kinds

    def take(self):
        self.at += 1
        return self.tokens[self.at - 1]

    def text(self):
        nodes = []
        while self.sees("node_"):
            nodes.append(self.node())
        return nodes

    def node(self):
        self.take()
        name = self.take()
        inputs = self.names()
        self.take()
        outputs = self.names()
        self.take()
        inner = []
        if self.sees("var"):
            inner = self.names()
        equations = []
        self.take()
        while not self.sees("tel"):
            equations.append(self.equation())
        self.take()
        return {"name": name, "inputs": inputs, "outputs": outputs, "inner": inner, "equations": equations}

    def names(self):
        found = []
        self.take()
        while not self.sees(")", "let"):
            alike = []
            while not self.sees(":"):
                token = self.take()
                if token[0] == "name":
                    alike.append(token)
            self.take()
            kind = self.take()[0]
            found += [(token[2], token[1], kind) for token in alike]
            if self.sees(";"):
                self.take()
        if self.sees(")"):
            self.take()
        return found

    def equation(self):
        lefts = []
        while not self.sees("="):
            token = self.take()
            if token[0] == "name":
                lefts.append(token)
        place = self.take()[1]
        tree = self.expression()
        self.take()
        return lefts, place, tree

    def expression(self):
        left = self.implied()
        if self.sees("->", "fby"):
            sign = self.take()
            return (sign[0], sign[1], [left, self.expression()], None)
        return left

    def implied(self):
        left = self.level(0)
        if self.sees("=>"):
            sign = self.take()
            return (sign[0], sign[1], [left, self.implied()], None)
        return left

    def level(self, k):
        if k == len(self.LEFT):
            return self.before_one()
        left = self.level(k + 1)
        if self.LEFT[k] is None:
            if self.sees("=", "<>", "<", "<=", ">", ">="):
                sign = self.take()
                left = (sign[0], sign[1], [left, self.level(k + 1)], None)
            return left
        while self.sees(*self.LEFT[k]):
            sign = self.take()
            left = (sign[0], sign[1], [left, self.level(k + 1)], None)
        return left

    def before_one(self):
        if self.sees("not", "-", "pre"):
            sign = self.take()
            return (sign[0], sign[1], [self.before_one()], None)
        return self.one()

    def one(self):
        token = self.take()
        if token[0] == "(":
            tree = self.expression()
            self.take()
            return tree
        if token[0] == "if":
            first = self.expression()
            self.take()
            second = self.expression()
            self.take()
            return ("if", token[1], [first, second, self.expression()], None)
        way = ""
        if token[0] in ("reset", "activate"):
            way = token[0]
            token = self.take()
        if way or (token[0] == "name" and self.sees("(")):
            return self.call(way, token)
        return (token[0], token[1], [], token[2])

    def call(self, way, name):
        parts = []
        while self.take()[0] != ")":
            parts.append(self.expression())
            if self.sees(")"):
                self.take()
                break
        values = []
        if way:
            self.take()
            parts.append(self.before_one())
        if way == "activate":
            self.take()
            sign = 1
            while not self.sees(")"):
                token = self.take()
                if token[0] in ("true", "false"):
                    values.append(("bool", token[0] == "true"))
                elif token[0] == "number":
                    values.append(("int", sign * int(token[2])))
                sign = -1 if token[0] == "-" else 1
            self.take()
        return ("call", name[1], parts, (name[2], way, values))


class Judge:
    """Gathers the places at which a node breaks a rule."""

    def __init__(self, node, before):
        self.node = node
        self.before = {other["name"][2]: other for other in before}
        self.own = node["outputs"] + node["inner"]
        self.kinds = {name: kind for name, _, kind in node["inputs"] + self.own}
        self.wrong = set()

    def places(self):
        node = self.node
        if node["name"][2] in self.before:
            self.wrong.add(node["name"][1])
        declared = node["inputs"] + self.own
        for k, (name, place, _) in enumerate(declared):
            if name in [other[0] for other in declared[:k]]:
                self.wrong.add(place)
        lefts = [token for equation in node["equations"] for token in equation[0]]
        for k, (_, place, name) in enumerate(lefts):
            if name not in [other[0] for other in self.own] or name in [other[2] for other in lefts[:k]]:
                self.wrong.add(place)
        for name, place, _ in self.own:
            if name not in [other[2] for other in lefts]:
                self.wrong.add(place)
        for names, place, tree in node["equations"]:
            kinds = self.kinds_of(tree, True)
            if kinds and kinds != [self.kinds.get(token[2]) for token in names]:
                self.wrong.add(place)
            if not self.begun(tree):
                self.wrong.add(place)
        for k, needs in enumerate(self.needs()):
            if k in needs:
                self.wrong.add(node["equations"][k][0][0][1])
        return self.wrong

    def kinds_of(self, tree, alone=False):
        what, place, parts, more = tree
        given = [self.kinds_of(part) for part in parts]
        if what == "number":
            return ["int"]
        if what in ("true", "false"):
            return ["bool"]
        if what == "name":
            if more not in self.kinds:
                self.wrong.add(place)
                return None
            return [self.kinds[more]]
        if what == "call" and more[0] not in self.before:
            self.wrong.add(place)
            return None
        if None in given:
            return None
        made = self.made(what, [kinds[0] for kinds in given], more, alone)
        if made is None:
            self.wrong.add(place)
        return made

    def made(self, what, given, more, alone):
        if what == "call":
            name, way, values = more
            outputs = [kind for _, _, kind in self.before[name]["outputs"]]
            inputs = [kind for _, _, kind in self.before[name]["inputs"]]
            right = given == inputs + (["bool"] if way else [])
            right = right and (way != "activate" or [kind for kind, _ in values] == outputs) and (alone or len(outputs) == 1)
            return outputs if right else None
        if what in ("+", "-", "*", "/", "mod"):
            return ["int"] if set(given) == {"int"} else None
        if what in ("<", "<=", ">", ">="):
            return ["bool"] if set(given) == {"int"} else None
        if what in ("not", "and", "or", "xor", "=>"):
            return ["bool"] if set(given) == {"bool"} else None
        if what == "if":
            return given[1:2] if given[0] == "bool" and given[1] == given[2] else None
        if len(set(given)) > 1:
            return None
        return ["bool"] if what in ("=", "<>") else given[:1]

    def begun(self, tree):
        what, place, parts, _ = tree
        given = [self.begun(part) for part in parts]
        if what == "->":
            if not given[0]:
                self.wrong.add(place)
            return given[0]
        if what in ("pre", "fby", "call") and False in given:
            self.wrong.add(place)
        return what != "pre" and False not in given

    def now(self, tree):
        what, _, parts, more = tree
        if what == "name":
            return {more}
        if what in ("pre", "fby"):
            parts = parts[:1] if what == "fby" else []
        return {name for part in parts for name in self.now(part)}

    def needs(self):
        equations = self.node["equations"]
        needs = []
        for _, _, tree in equations:
            having = [[k for k, other in enumerate(equations) if name in [token[2] for token in other[0]]]
                      for name in self.now(tree)]
            needs.append({min(numbers) for numbers in having if numbers})
        for _ in equations:
            needs = [set().union(direct, *[needs[k] for k in direct]) for direct in needs]
        return needs


def told(text):
    tokens = scan(text)
    wrong = first_wrong(tokens)
    if wrong is not None:
        return [-100 - wrong]
    nodes = Trees(tokens).text()
    places = set()
    for k, node in enumerate(nodes):
        places |= Judge(node, nodes[:k]).places()
    if places:
        return [-1000000 - min(places)]
    lines = ""
    for node in nodes:
        needs = Judge(node, []).needs()
        left = list(range(len(needs)))
        lines += node["name"][2]
        while left:
            ready = min(k for k in left if not needs[k] & set(left))
            left.remove(ready)
            lines += " %d" % ready
        lines += "\n"
    return [len(lines)] + bytes_of(lines)


class Writer:
    """Writes texts by chance: mostly right ones, as lists of words."""

    def __init__(self, chance):
        self.chance = chance
        self.nodes = []

    def text(self):
        words = []
        for k in range(self.chance.randint(1, 3)):
            words += self.node("n%d" % k)
        return words

    def node(self, name):
        chance = self.chance
        letters = list("abcdefgh")
        chance.shuffle(letters)
        kinds = {letter: chance.choice(("int", "bool")) for letter in letters}
        first = chance.randint(1, 3)
        second = first + chance.randint(1, 3)
        inputs, outputs, inner = letters[:first], letters[first:second], letters[second:second + chance.randint(0, 2)]
        words = ["node", name, "("] + self.names(inputs, kinds) + [")", "returns", "("]
        words += self.names(outputs, kinds) + [")", ";"]
        if inner:
            words += ["var"] + self.names(inner, kinds) + [";"]
        own = outputs + inner
        chance.shuffle(own)
        self.kinds = kinds
        self.all = inputs + own
        equations = []
        known = list(inputs)
        while own:
            equations.append(self.equation(own, known))
        chance.shuffle(equations)
        self.nodes.append((name, [kinds[n] for n in inputs], [kinds[n] for n in outputs]))
        return words + ["let"] + [word for equation in equations for word in equation] + ["tel"]

    def names(self, names, kinds):
        words = []
        for k, name in enumerate(names):
            words.append(name)
            if k + 1 < len(names) and kinds[names[k + 1]] == kinds[name] and self.chance.random() < 0.5:
                words.append(",")
            else:
                words += [":", kinds[name]] + ([";"] if k + 1 < len(names) else [])
        return words

    def equation(self, own, known):
        for name, inputs, outputs in self.nodes:
            lefts = own[:len(outputs)]
            if len(outputs) > 1 and [self.kinds[n] for n in lefts] == outputs and self.chance.random() < 0.7:
                words = ["("] + " , ".join(lefts).split() + [")", "="]
                words += self.call((name, inputs, outputs), 3, known) + [";"]
                for left in lefts:
                    own.remove(left)
                    known.append(left)
                return words
        left = own.pop()
        words = [left, "="] + self.part(self.kinds[left], 4, known, True, 1) + [";"]
        known.append(left)
        return words

    def call(self, node, deep, known):
        name, inputs, outputs = node
        given = []
        for k, kind in enumerate(inputs):
            given += ([","] if k else []) + self.part(kind, deep - 1, known, True, 1)
        words = [name, "("] + given + [")"]
        way = self.chance.choice(("", "reset", "activate"))
        if way:
            words = [way] + words + ["every"] + self.part("bool", deep - 1, known, True, 8)
        if way == "activate":
            words += ["initial", "("]
            for k, kind in enumerate(outputs):
                value = ["true"] if kind == "bool" else self.chance.choice((["3"], ["-", "4"]))
                words += ([","] if k else []) + value
            words.append(")")
        return words

    def part(self, kind, deep, known, begun, level):
        """An expression that binds as much as the level or more, in brackets where it must or by chance."""
        own, words = self.bare(kind, deep, known, begun)
        if own < level or self.chance.random() < 0.05:
            return ["("] + words + [")"]
        return words

    def bare(self, kind, deep, known, begun):
        chance = self.chance
        names = [name for name in known if self.kinds[name] == kind]
        if deep <= 0 or chance.random() < 0.15:
            if names and chance.random() < 0.8:
                return 9, [chance.choice(names)]
            return 9, [chance.choice(("true", "false"))] if kind == "bool" else [str(chance.randint(0, 99))]
        pick = chance.randint(0, 9)

        def sub(other, level, now=known, has=begun):
            return self.part(other, deep - 1, now, has, level)

        if pick == 0:
            return 1, sub(kind, 2, known, True) + ["->"] + sub(kind, 1, known, False)
        if pick == 1:
            return 1, sub(kind, 2, known, True) + ["fby"] + sub(kind, 1, self.all, True)
        if pick == 2 and not begun:
            return 8, ["pre"] + sub(kind, 8, self.all, True)
        if pick == 3:
            # What's behind an if would be read as its last part's, so it gets brackets by its level.
            return 0, ["if"] + sub("bool", 0) + ["then"] + sub(kind, 0) + ["else"] + sub(kind, 0)
        if pick == 4:
            fitting = [node for node in self.nodes if node[2] == [kind]]
            if fitting:
                return 9, self.call(chance.choice(fitting), deep, known)
        if kind == "int":
            if pick == 5:
                return 8, ["-"] + sub("int", 8)
            if pick < 8:
                return 6, sub("int", 6) + [chance.choice("+-")] + sub("int", 7)
            return 7, sub("int", 7) + [chance.choice(("*", "/", "mod"))] + sub("int", 8)
        if pick == 5:
            return 8, ["not"] + sub("bool", 8)
        if pick == 6:
            return 5, sub("int", 6) + [chance.choice(("<", "<=", ">", ">=", "=", "<>"))] + sub("int", 6)
        if pick == 7:
            return 2, sub("bool", 3) + ["=>"] + sub("bool", 2)
        if pick == 8:
            return 3, sub("bool", 3) + [chance.choice(("or", "xor"))] + sub("bool", 4)
        return 4, sub("bool", 4) + ["and"] + sub("bool", 5)


WORDS = NOT_NAMES + "( ) , ; : = < <= > >= <> + - * / -> => a b c d e f g h n0 n1 w 7 0".split()
SIGNS = "-> fby => or xor and = <> < <= > >= + - * / mod".split()
NAMES = "a b c d e f g h n0 n1 w".split()


def changed(chance, words, least_way):
    """The words with something small done to them; from the way 4 on each token may mostly stand still."""
    words = list(words)
    k = chance.randrange(len(words))
    way = chance.randint(least_way, 7)
    if way == 0:
        del words[k]
    elif way == 1:
        words.insert(k, chance.choice(WORDS))
    elif way == 2:
        words[k] = chance.choice(WORDS)
    elif way == 3:
        words[k:k + 2] = reversed(words[k:k + 2])
    elif way == 4:
        places = [j for j, word in enumerate(words) if word in SIGNS]
        words[chance.choice(places)] = chance.choice(SIGNS)
    elif way == 5:
        places = [j for j, word in enumerate(words) if word in NAMES]
        words[chance.choice(places)] = chance.choice(NAMES)
    elif way == 6:
        places = [j for j, word in enumerate(words) if word in ("int", "bool")]
        words[chance.choice(places)] = chance.choice(("int", "bool"))
    else:
        places = [j for j, word in enumerate(words) if word in SIGNS]
        words.insert(chance.choice(places) + 1, chance.choice(("pre", "pre", "not", "-", "0 ->", "a fby")))
    return words


def written(chance, words):
    text = ""
    for word in words:
        gap = chance.choice((" ", " ", "  ", "\n", "\t", "\r\n", " -- told; (\n"))
        if text and word[0] in "(),;:" and chance.random() < 0.7:
            gap = ""
        text += gap + word
    return text[chance.randint(0, 1):]


class SecondReading(unittest.TestCase):
    TIMES = 400

    def compare(self, seed, changes, least_way):
        seen = {}
        for k in range(self.TIMES):
            chance = random.Random(seed + k)
            words = Writer(chance).text()
            for _ in range(changes):
                words = changed(chance, words, least_way)
            text = written(chance, words)
            answer = order(100000, bytes_of(text))
            self.assertEqual(answer, told(text), "seed %d:\n%s" % (seed + k, text))
            sort = "right" if answer[0] >= 0 else "token" if answer[0] > -1000000 else "rule"
            seen[sort] = seen.get(sort, 0) + 1
        return seen

    def test_texts_as_they_are_written(self):
        seen = self.compare(0, 0, 0)
        self.assertGreater(seen["right"], self.TIMES * 9 // 10)

    def test_texts_with_one_change(self):
        seen = self.compare(100000, 1, 0)
        self.assertGreater(min(seen["token"], seen["rule"], seen["right"]), self.TIMES // 20)

    def test_texts_with_several_rules_broken(self):
        seen = self.compare(200000, 5, 4)
        self.assertGreater(seen["rule"], self.TIMES // 4)

"""Each limit, just kept and passed by one."""

from helper import OrderCase, bool_is, int_is, node_f

DEEP = 64
OPERATORS = 4096

# What nests, as what stands before and behind the expression within it, with a kind of its own.
INT_NESTS = (
    ("(", ")"), ("- ", ""), ("one(", ")"), ("join(", ", p)"),
    ("if p then ", " else 1"), ("if p then 1 else ", ""), ("if 1 = ", " then 1 else 2"),
    ("reset one(", ") every p"), ("activate one(", ") every p initial (1)"),
)
BOOL_NESTS = (
    ("(", ")"), ("not ", ""), ("flip(", ")"), ("reset flip(p) every ", ""),
    ("activate flip(p) every ", " initial (true)"), ("if ", " then p else q"),
)


def nested(nests, inmost):
    for before, behind in nests:
        inmost = before + inmost + behind
    return inmost


def int_wrong(expression):
    """The place of = where its right has no beginning."""
    text = int_is(expression)
    return text, -1000000 - (text.index("y = " + expression) + 2)


class Words(OrderCase):
    def with_name(self, name):
        return "node %s(%s: int) returns (y: int); let y = %s; tel" % (name, name, name)

    def test_words_of_31_bytes(self):
        self.assert_right(self.with_name("n" * 31))
        self.assert_right(self.with_name("_" * 31))
        self.assert_limit(self.with_name("n" * 32))
        self.assert_limit(self.with_name("_" * 32))
        self.assert_limit(self.with_name("n2" * 1000))

    def test_a_long_word_in_a_remark(self):
        self.assert_right("-- " + "n" * 100 + "\n" + self.with_name("n"))

    def test_a_long_word_passes_it_whether_or_not_it_may_stand(self):
        for before in ("", "node ", "node f ", "node f(x: int) returns (y: int); let y = x; tel ",
                       "node f(x: int) returns (y: int); let y = 1 "):
            self.assert_limit(before + "n" * 32)
            self.assert_refused(before + "$" + "n" * 32, -100 - len(before))

    def test_one_token_wrong_before_a_long_word(self):
        self.assert_token("node @; " + "n" * 32)
        self.assert_token("node f(x: int) returns (y: int); let y @; " + "n" * 32 + " = x; tel")

    def test_one_token_wrong_behind_a_long_word(self):
        self.assert_limit("node " + "n" * 32 + " $")
        self.assert_limit("node f(" + "n" * 32 + "$")


class Numbers(OrderCase):
    def test_numbers_to_the_largest(self):
        for number in ("0", "00", "0000000000", "0000000009", "2147483647", "2147483646", "1999999999"):
            self.assert_right(int_is(number))
        for number in ("2147483648", "4294967296", "9999999999", "00000000000", "02147483647", "1" * 5000):
            self.assert_limit(int_is(number))

    def test_values_behind_initial(self):
        self.assert_right(int_is("activate one(x) every p initial (-2147483647)"))
        self.assert_limit(int_is("activate one(x) every p initial (-2147483648)"))
        self.assert_limit(int_is("activate one(x) every p initial (2147483648)"))

    def test_a_long_number_passes_it_whether_or_not_it_may_stand(self):
        for number in ("00000000000", "2147483648"):
            for before in ("", "node ", "node f(", "node f(x: int) returns (y: int); let y = 1 "):
                self.assert_limit(before + number)
                self.assert_limit(before + number + "$")
                self.assert_refused(before + "$" + number, -100 - len(before))

    def test_a_number_ends_where_a_word_begins(self):
        self.assert_token(int_is("1@" + "n" * 31))
        self.assert_limit(int_is("1" + "n" * 32))
        self.assert_rule(int_is("@n" + "1" * 30))


class Nodes(OrderCase):
    def nodes(self, number):
        return "".join("node f%d(x: int) returns (y: int); let y = x; tel\n" % k for k in range(number))

    def test_64_nodes(self):
        self.assert_lines(self.nodes(64), "".join("f%d 0\n" % k for k in range(64)))
        self.assert_limit(self.nodes(65))
        self.assert_limit(self.nodes(64) + "node")
        self.assert_limit(self.nodes(64) + "node $")

    def test_a_wrong_token_before(self):
        self.assert_token(self.nodes(64) + "@nodes")
        self.assert_token(self.nodes(63) + "node @node")


class Names(OrderCase):
    def declared(self, inputs, outputs, inner):
        given = ", ".join("i%d" % k for k in range(inputs))
        told = ", ".join("o%d" % k for k in range(outputs))
        var = "var " + "".join("v%d: int; " % k for k in range(inner)) if inner else ""
        lefts = ["o%d" % k for k in range(outputs)] + ["v%d" % k for k in range(inner)]
        equations = "".join("%s = i0; " % left for left in lefts)
        return "node f(%s: int) returns (%s: int); %slet %s tel" % (given, told, var, equations)

    def test_64_names_of_a_node(self):
        for inputs, outputs, inner in ((63, 1, 0), (1, 63, 0), (1, 1, 62), (20, 20, 24)):
            self.assert_right(self.declared(inputs, outputs, inner))
            self.assert_limit(self.declared(inputs, outputs, inner + 1))
            self.assert_limit(self.declared(inputs + 1, outputs, inner))
            self.assert_limit(self.declared(inputs, outputs + 1, inner))

    def test_each_with_a_kind_of_its_own(self):
        for number in (63, 64):
            given = "; ".join("i%d: int" % k for k in range(number))
            equations = "".join("i%d = x; " % k for k in range(number))
            for text in ("node f(%s) returns (x: int); let x = i0; tel" % given,
                         "node f(x: int) returns (%s); let %s tel" % (given, equations)):
                if number == 63:
                    self.assert_right(text)
                else:
                    self.assert_limit(text)

    def test_each_node_has_its_own(self):
        text = self.declared(60, 2, 2)
        self.assert_right(text + "\n" + text.replace("node f", "node g"))

    def test_a_name_declared_twice_counts_twice(self):
        names = ", ".join(["x"] * 64)
        self.assert_limit("node f(" + names + ": int) returns (y: int); let y = x; tel")

    def test_what_comes_first(self):
        names = ", ".join("i%d" % k for k in range(64))
        self.assert_limit("node f(" + names + ", i64 $")
        self.assert_token("node f(" + names + ", @$")
        self.assert_token("node f(" + names + ", @int")
        self.assert_token("node f(" + names + "@; : int")

    def test_names_on_the_left_are_not_declared(self):
        lefts = ", ".join(["y"] * 100)
        self.assert_rule(node_f("r = true; (y, @" + lefts + ") = one(x);"))


class Given(OrderCase):
    def test_64_expressions_of_a_call(self):
        for way, behind in (("", ""), ("reset ", " every p"), ("activate ", " every p initial (1)")):
            self.assert_rule(int_is(way + "@one(" + ", ".join(["x"] * 64) + ")" + behind))
            self.assert_limit(int_is(way + "one(" + ", ".join(["x"] * 65) + ")" + behind))
            self.assert_limit(int_is(way + "one(" + ", ".join(["x"] * 64) + ", $"))
            self.assert_token(int_is(way + "one(" + ", ".join(["x"] * 64) + "@$"))

    def test_a_call_may_be_given_63_and_be_right(self):
        names = ", ".join("i%d" % k for k in range(63))
        first = "node f(" + names + ": int) returns (y: int); let y = i0; tel\n"
        self.assert_right(first + "node g(x: int) returns (y: int); let y = f(" + ", ".join(["x"] * 63) + "); tel")

    def test_64_values(self):
        for value in ("1", "-1", "true"):
            behind = "one(x) every p initial ("
            self.assert_rule(int_is("activate @" + behind + ", ".join([value] * 64) + ")"))
            self.assert_limit(int_is("activate " + behind + ", ".join([value] * 65) + ")"))
            self.assert_limit(int_is("activate " + behind + ", ".join([value] * 64) + ", $"))
            self.assert_token(int_is("activate " + behind + ", ".join([value] * 64) + "@$"))

    def test_63_values_that_are_right(self):
        names = ["o%d" % k for k in range(63)]
        outputs = ", ".join(names)
        equations = "".join(name + " = x; " for name in names)
        first = "node f(x: int) returns (" + outputs + ": int); let " + equations + "tel\n"
        second = "node g(x: int) returns (" + outputs + ": int); let (" + outputs + ") = activate f(x) every x = 0"
        self.assert_token(first + second.replace("x = 0", "x @= 0"))
        self.assert_right(first + second.replace("x = 0", "(x = 0)") + " initial (" + ", ".join(["-7"] * 63) + "); tel")


class Depth(OrderCase):
    def test_each_that_nests(self):
        for nest in INT_NESTS:
            self.assert_right(int_is(nested([nest] * DEEP, "x")))
            self.assert_limit(int_is(nested([nest] * (DEEP + 1), "x")))
        for nest in BOOL_NESTS:
            self.assert_right(bool_is(nested([nest] * DEEP, "p")))
            self.assert_limit(bool_is(nested([nest] * (DEEP + 1), "p")))

    def test_pre(self):
        text, refusal = int_wrong("pre " * 64 + "x")
        self.assert_refused(text, refusal)
        self.assert_limit(int_is("pre " * 65 + "x"))
        self.assert_limit(int_is("pre " * 65 + "$"))
        self.assert_right(int_is("0 -> pre (" * 32 + "x" + ")" * 32))

    def test_all_of_them_together(self):
        nests = INT_NESTS * 8
        for inmost in ("(x)", "- x", "one(x)", "if p then x else x", "reset one(x) every p",
                       "activate one(x) every p initial (1)"):
            self.assert_right(int_is(nested(nests[:DEEP - 1], inmost)))
            self.assert_limit(int_is(nested(nests[:DEEP], inmost)))

    def test_beside_one_another(self):
        self.assert_right(int_is(" + ".join(["(- one(x))"] * 1000)))
        self.assert_right(int_is(" + ".join(["-x"] * 1000)))
        self.assert_right(bool_is(" and ".join(["not p"] * 1000)))
        self.assert_right(int_is("0 -> " + " + ".join(["pre x"] * 1000)))
        self.assert_right(int_is(" + ".join(["reset one(x) every not p"] * 1000)))

    def test_operators_between_two_nest_nothing(self):
        self.assert_right(int_is("1 + " * 100 + "x"))
        self.assert_right(int_is("x -> " * 100 + "x"))
        self.assert_right(bool_is("p => " * 100 + "p"))

    def test_what_ends_makes_room(self):
        for part in ("(x)", "- x", "one(x)", "reset one(x) every p"):
            for other in ("(x)", "- x", "one(x)", "if p then x else x"):
                self.assert_right(int_is("(" * 63 + part + " + " + other + ")" * 63))
        # What's behind an if's last part is within it.
        self.assert_limit(int_is("(" * 63 + "if p then x else x + (x)" + ")" * 63))

    def test_what_ended_makes_no_more_room_than_it_took(self):
        for part in ("(x)", "- x", "one(x)", "(if p then x else x)", "reset one(x) every p",
                     "activate one(x) every p initial (1)"):
            self.assert_right(int_is(part + " + " + "(" * 64 + "x" + ")" * 64))
            self.assert_limit(int_is(part + " + " + "(" * 65 + "x" + ")" * 65))
            self.assert_limit(node_f("r = " + part + " = 1; y = " + "(" * 65 + "x" + ")" * 65 + ";"))

    def test_the_bracket_of_initial_and_of_the_left_nest_nothing(self):
        deep = "(" * 63 + "activate one(x) every p initial (-1)" + ")" * 63
        self.assert_right(int_is(deep))
        self.assert_right(node_f("(y, r) = " + "(" * 63 + "both(x, p)" + ")" * 63 + ";"))

    def test_what_comes_first(self):
        before = "(" * 64
        for token in ("(", "if", "-", "not", "pre", "reset", "activate", "one("):
            self.assert_limit(int_is(before + token + "$"))
            self.assert_token(int_is(before + "@$" + token))
            self.assert_token(int_is(before + "x @; " + token))
        self.assert_token(int_is(before + "@)"))


class Operators(OrderCase):
    def test_between_two(self):
        for sign in ("+", "-", "*", "/", "mod", "->", "fby"):
            self.assert_right(int_is("x" + (" %s x" % sign) * OPERATORS))
            self.assert_limit(int_is("x" + (" %s x" % sign) * (OPERATORS + 1)))
        for sign in ("or", "xor", "and", "=>"):
            self.assert_right(bool_is("p" + (" %s p" % sign) * OPERATORS))
            self.assert_limit(bool_is("p" + (" %s p" % sign) * (OPERATORS + 1)))

    def test_that_compare(self):
        # The 2048th "and" is one more than what's needed between 2048 comparisons.
        for sign in ("=", "<>", "<", "<=", ">", ">="):
            part = "x %s x" % sign
            self.assert_right(bool_is(" and ".join([part] * 2048) + " and p"))
            self.assert_limit(bool_is(" and ".join([part] * 2049)))

    def test_before_one(self):
        self.assert_right(int_is("-x" + "+-x" * 2047 + "+x"))
        self.assert_limit(int_is("-x" + "+-x" * 2047 + "+-x"))
        self.assert_right(bool_is("not p" + " or not p" * 2047 + " or p"))
        self.assert_limit(bool_is("not p" + " or not p" * 2047 + " or not p"))
        self.assert_right(int_is("0 -> pre x" + "+pre x" * 2047))
        self.assert_limit(int_is("0 -> pre x" + "+pre x" * 2047 + "+x"))

    def test_calls(self):
        for call in ("one(x)", "reset one(x) every p"):
            self.assert_right(int_is(call + ("+" + call) * 2047 + "+x"))
            self.assert_limit(int_is(call + ("+" + call) * 2047 + "+" + call))
        call = "activate one(x)every p initial(1)"
        sums = "+x" * 2000
        self.assert_right(int_is(call + ("+" + call) * 1047 + "+x" + sums))
        self.assert_limit(int_is(call + ("+" + call) * 1047 + "+x+x" + sums))

    def test_ifs(self):
        self.assert_right(int_is("x" + "+(if p then x else z)" * 2048))
        self.assert_limit(int_is("x" + "+(if p then x else z)" * 2048 + "+x"))
        self.assert_right(int_is("x*" * 4095 + "if p then x else z"))
        self.assert_limit(int_is("x*" * 4096 + "if p then x else z"))
        self.assert_right(node_f("y = if p then x else z; r = p" + " or p" * 4095 + ";"))
        self.assert_limit(node_f("y = if p then x else z; r = p" + " or p" * 4096 + ";"))

    def test_brackets_are_none(self):
        self.assert_right(int_is("x" + "+((x))" * OPERATORS))

    def test_the_sign_of_a_value_is_none(self):
        names = ["o%d" % k for k in range(60)]
        outputs = ", ".join(names)
        first = "node g(x: int) returns (" + outputs + ": int); let " + "".join(n + " = x; " for n in names) + "tel\n"
        call = "(" + outputs + ") = activate g(x) every p initial (" + ", ".join(["-1"] * 60) + ");"
        head = "node h(x: int; p: bool) returns (y: int); var " + outputs + ": int; let "
        self.assert_right(first + head + call + "y = x" + "+x" * 4095 + "; tel")
        self.assert_limit(first + head + call + "y = x" + "+x" * 4096 + "; tel")

    def test_of_all_of_a_nodes_equations(self):
        self.assert_right(node_f("y = x" + "+x" * 2048 + "; r = p" + " or p" * 2048 + ";"))
        self.assert_limit(node_f("y = x" + "+x" * 2048 + "; r = p" + " or p" * 2049 + ";"))

    def test_each_node_has_its_own(self):
        text = "node %s(x: int) returns (y: int); let y = x" + "+x" * OPERATORS + "; tel\n"
        self.assert_right("".join(text % name for name in ("a", "b", "c")))

    def test_what_comes_first(self):
        full = "x" + "+x" * OPERATORS
        self.assert_limit(int_is(full + "+$"))
        self.assert_token(int_is(full + "@$+"))
        self.assert_token(bool_is("x = x" + "+x" * (OPERATORS - 1) + " @= x"))
        full = "x" + "+x" * (OPERATORS - 1) + "+"
        self.assert_limit(int_is(full + "reset $"))
        self.assert_limit(int_is(full + "- $"))
        self.assert_limit(int_is(full + "one($"))
        self.assert_token(int_is(full + "one @$"))
        self.assert_limit(int_is(full + "if $"))
        self.assert_token(int_is(full + "@$ if"))

    def test_limits_come_before_broken_rules(self):
        self.assert_limit(node_f("y = w; r = p" + " or p" * 4097 + ";"))
        self.assert_limit("node f(x: int) returns (x: int); let x = 2147483648; tel")

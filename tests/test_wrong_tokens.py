"""-100 less the place of the first token that can't stand where it does."""

from helper import OrderCase, bool_is, int_is, node_f

NOT_NAMES = (
    "node returns var let tel int bool true false not and or xor mod if then else pre fby"
    " activate reset every initial"
).split()
SIGNS = "( ) , ; : = < <= > >= <> + - * / -> =>".split()
BETWEEN = "-> fby => or xor and = <> < <= > >= + - * / mod".split()
BEGINNING = "( not - pre if reset activate true false".split()


class WrongTokens(OrderCase):
    def assert_only(self, before, allowed):
        """Of all tokens just those that are allowed can stand behind this; "" is the text's end."""
        before += " "
        for token in NOT_NAMES + SIGNS + ["name", "7", ""]:
            if token in allowed:
                self.assertNotEqual(self.answered(before + token + " "), [-100 - len(before)], before + token)
            else:
                self.assert_refused(before + token, -100 - len(before))
        self.assert_refused(before + "$", -100 - len(before))

    def test_an_empty_text(self):
        self.assert_token("@")

    def test_blanks_alone(self):
        self.assert_token(" @")
        self.assert_token(" \t\r\n@")
        self.assert_token("-- told@")
        self.assert_token("-- told\n@")

    def test_bytes_that_begin_no_token(self):
        known = "\t\n\r ()*+,-/:;<=>_0123456789" + "abcdefghijklmnopqrstuvwxyzABCDEFGHIJKLMNOPQRSTUVWXYZ"
        for byte in range(256):
            sign = chr(byte)
            text = "node f(x: int) returns (y: int); let y = x; tel "
            if sign not in known:
                self.assert_refused(sign, -100)
                self.assert_refused("node" + sign, -104)
                self.assert_refused("node f" + sign + "(", -106)
                self.assert_refused(text + sign, -100 - len(text))

    def test_the_first_of_several(self):
        self.assert_token("node @node node $")
        self.assert_token("node f(x: int) returns @; $")
        self.assert_token("node f @$ ;")

    def test_the_end_where_more_must_come(self):
        words = "node f ( x , z : int ; p : bool ) returns ( y , r : int ) ; var a : int ; let".split()
        words += "( y , r ) = if not p then f ( x , - 1 ) else ( z ) -> pre x ;".split()
        words += "a = activate f ( x ) every p initial ( 1 , true ) ; tel".split()
        for k in range(len(words)):
            self.assert_token(" ".join(words[:k]) + "@")
            self.assert_token(" ".join(words[:k]) + " \n @")
            self.assert_token(" ".join(words[:k]) + " -- told@")

    def test_a_text_begins_with_a_node(self):
        self.assert_only("", ("node",))

    def test_nodes_names(self):
        self.assert_only("node", ("name",))
        self.assert_only("node f", ("(",))

    def test_names(self):
        for before in ("node f(", "node f(x: int) returns (", "node f(x: int) returns (y: int); var"):
            self.assert_only(before, ("name",))
            self.assert_only(before + " a", (",", ":"))
            self.assert_only(before + " a,", ("name",))
            self.assert_only(before + " a, b:", ("int", "bool"))
            self.assert_only(before + " a: int; b: bool; c", (",", ":"))
        for before in ("node f(", "node f(x: int) returns ("):
            self.assert_only(before + " a: bool", (";", ")"))
            self.assert_only(before + " a: bool;", ("name",))

    def test_between_names(self):
        self.assert_only("node f(x: int)", ("returns",))
        self.assert_only("node f(x: int) returns", ("(",))
        self.assert_only("node f(x: int) returns (y: int)", (";",))
        self.assert_only("node f(x: int) returns (y: int);", ("var", "let"))
        self.assert_only("node f(x: int) returns (y: int); var a: int", (";",))
        self.assert_only("node f(x: int) returns (y: int); var a: int;", ("name", "let"))

    def test_equations(self):
        let = "node f(x: int) returns (y: int); let"
        self.assert_only(let, ("name", "("))
        self.assert_only(let + " y", ("=",))
        self.assert_only(let + " (", ("name",))
        self.assert_only(let + " (y", (",",))
        self.assert_only(let + " (y,", ("name",))
        self.assert_only(let + " (y, z", (",", ")"))
        self.assert_only(let + " (y, z,", ("name",))
        self.assert_only(let + " (y, z)", ("=",))
        self.assert_only(let + " y = x;", ("name", "(", "tel"))
        self.assert_only(let + " y = x; tel", ("node", ""))

    def test_where_an_operand_must_stand(self):
        let = "node f(x: int) returns (y: int); let y ="
        begins = BEGINNING + ["name", "7"]
        self.assert_only(let, begins)
        for behind in ("(", "- ", "not", "pre", "if", "if x then", "if x then x else", "f(", "f(x,", "reset f(",
                       "reset f(x,", "reset f(x) every", "activate f(", "activate f(x) every"):
            self.assert_only(let + " " + behind, begins)
        for sign in BETWEEN:
            self.assert_only(let + " x " + sign, begins)

    def test_behind_an_operand(self):
        let = "node f(x: int) returns (y: int); let y ="
        for operand in ("7", "true", "false", "(x)", "f(x)", "- 7", "not (x)", "pre true", "if x then x else 7",
                        "reset f(x) every 7", "activate f(x) every 7 initial (7)"):
            self.assert_only(let + " " + operand, BETWEEN + [";"])
            self.assert_only(let + " (" + operand, BETWEEN + [")"])
            self.assert_only(let + " if " + operand, BETWEEN + ["then"])
            self.assert_only(let + " if x then " + operand, BETWEEN + ["else"])
            self.assert_only(let + " f(" + operand, BETWEEN + [",", ")"])
            self.assert_only(let + " activate f(" + operand, BETWEEN + [",", ")"])
        self.assert_only(let + " x", BETWEEN + [";", "("])
        self.assert_only(let + " (x", BETWEEN + [")", "("])

    def test_within_reset_and_activate(self):
        let = "node f(x: int) returns (y: int); let y ="
        for way in ("reset", "activate"):
            self.assert_only(let + " " + way, ("name",))
            self.assert_only(let + " " + way + " f", ("(",))
            self.assert_only(let + " " + way + " f(x)", ("every",))
        self.assert_only(let + " activate f(x) every p", ("initial", "("))
        self.assert_only(let + " activate f(x) every (p)", ("initial",))
        self.assert_only(let + " activate f(x) every not true", ("initial",))
        self.assert_only(let + " activate f(x) every if p then p else true", BETWEEN + ["initial"])
        self.assert_only(let + " activate f(x) every p initial", ("(",))
        for values in ("(", "(1,", "(true, -1,"):
            self.assert_only(let + " activate f(x) every p initial " + values, ("7", "-", "true", "false"))
            self.assert_only(let + " activate f(x) every p initial " + values + " -", ("7",))
            for value in ("7", "- 7", "true", "false"):
                self.assert_only(let + " activate f(x) every p initial " + values + value, (",", ")"))

    def test_one_that_compares_between_two(self):
        for first in ("=", "<>", "<", "<=", ">", ">="):
            for second in ("=", "<>", "<", "<=", ">", ">="):
                self.assert_token(bool_is("x %s z @%s x" % (first, second)))
                self.assert_token(bool_is("x %s z + 1 * 2 @%s x" % (first, second)))
                self.assert_token(bool_is("(x %s - z @%s x)" % (first, second)))
                self.assert_right(bool_is("(x %s z) = (x %s z)" % (first, second)))
                self.assert_right(bool_is("x %s z and x %s z" % (first, second)))

    def test_a_call_is_given_something(self):
        self.assert_token(int_is("one(@)"))
        self.assert_token(int_is("one(x,@)"))
        self.assert_token(int_is("reset one(@) every p"))

    def test_words_that_are_no_names(self):
        for word in NOT_NAMES:
            self.assert_token("node @" + word + "(x: int) returns (y: int); let y = x; tel")
            self.assert_token("node f(@" + word + ": int) returns (y: int); let y = x; tel")
            self.assert_token("node f(x: int) returns (y, @" + word + ": int); let y = x; tel")
            self.assert_token("node f(x: int) returns (y: int); var @" + word + ": int; let y = x; tel")
            self.assert_token(node_f("(y, @" + word + ") = both(x, p);"))
            self.assert_token(int_is("reset @" + word + "(x) every p"))
            for near in (word + "_", "_" + word, word + "1", word.upper()):
                self.assert_right("node %s(%s: int) returns (y: int); let y = %s; tel" % (near, near, near))

    def test_brackets_on_the_left_hold_two_names_or_more(self):
        self.assert_token(node_f("(y@) = x; r = true;"))
        self.assert_token(node_f("(y, r@; = both(x, p);"))
        self.assert_token(node_f("(y, @(r)) = both(x, p);"))

    def test_wrong_tokens_come_before_broken_rules(self):
        self.assert_token(node_f("y = w + true; r = 1 @1;"))
        self.assert_token("node f(x: int) returns (x: int); let @tel = 1;")

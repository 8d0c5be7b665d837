"""Texts as long and as deep as they may be, in good time."""

from helper import InGoodTime, OrderCase, bool_is, int_is

MOST = 65536


class Long(InGoodTime, OrderCase):
    def test_a_text_of_blanks(self):
        self.assert_refused(" " * MOST, -100 - MOST)
        self.assert_refused("-" * MOST, -100 - MOST)
        self.assert_refused("--\n" * (MOST // 3), -100 - MOST // 3 * 3)

    def test_a_text_filled_up_with_blanks(self):
        text = "node f(x: int) returns (y: int); let y = x; tel"
        self.assert_lines(text + " " * (MOST - len(text)), "f 0\n")
        self.assert_lines(text.replace("=", "=" + "\n" * (MOST - len(text))), "f 0\n")

    def test_a_text_of_one_token(self):
        self.assert_limit("x" * MOST)
        self.assert_limit("1" * MOST)
        self.assert_refused("(" * MOST, -100)

    def test_operators_from_the_left_and_from_the_right(self):
        for sign in ("+", "-", "*", "/", " mod "):
            self.assert_right(int_is("x" + (sign + "x") * 4096))
        for sign in ("->", " fby "):
            self.assert_right(int_is("x" + (sign + "x") * 4096))
        for sign in (" or ", " xor ", " and ", "=>"):
            self.assert_right(bool_is("p" + (sign + "p") * 4096))

    def test_each_level_within_the_one_before(self):
        part = "p -> p => p or p and x = x + x * - "
        self.assert_right(bool_is((part + "one(") * 32 + "x" + ")" * 32).replace("one(p", "join(1, p"))

    def test_wrong_from_within(self):
        self.assert_rule(int_is("x" + "+x" * 4000 + "@+p"))
        self.assert_rule(int_is("0->" * 4000 + "0@->p"))

    def test_many_equations(self):
        equations = "y=x;" * 16000
        text = "node f(x:int)returns(y:int);let y=x;@" + equations + "tel"
        self.assert_rule(text)

    def test_many_equations_in_circles(self):
        text = "node f(x:int)returns(y:int);let @" + "y=y;" * 16000 + "tel"
        self.assert_rule(text)

    def test_a_long_chain_of_names_that_are_not_declared(self):
        links = "".join("a%d=a%d;" % (k, k + 1) for k in range(4000))
        self.assert_rule("node f(x:int)returns(@y:int);let " + links + "tel")
        self.assert_rule("node f(x:int)returns(y:int);let y=x;" + "@" + links + "tel")

    def test_many_names_on_the_left_and_on_the_right(self):
        lefts = ",".join(["y"] * 10000)
        rights = "if y then y else y"
        text = "node f(x:bool)returns(y:bool);let (@" + lefts + ")=" + rights + ";tel"
        self.assert_rule(text)
        lefts = ",".join("a%d" % k for k in range(2000))
        rights = "+".join("a%d" % k for k in range(2000))
        text = "node f(x:int)returns(y:int);let y=x;(@" + lefts + ")=" + rights + ";tel"
        self.assert_rule(text)

    def test_many_ifs(self):
        def tree(deep):
            return "x" if deep == 0 else "if p then %s else %s" % (tree(deep - 1), tree(deep - 1))
        self.assert_right(int_is(tree(11)))

    def test_64_nodes_each_calling_the_one_before(self):
        text = "node f0(x: int) returns (y: int); let y = x; tel\n"
        for k in range(1, 64):
            text += "node f%d(x: int) returns (y: int); let y = f%d(x); tel\n" % (k, k - 1)
        self.assert_lines(text, "".join("f%d 0\n" % k for k in range(64)))

    def test_64_nodes_each_calling_those_before(self):
        text = "node f0(x: int) returns (y: int); let y = x; tel\n"
        for k in range(1, 64):
            calls = " + ".join("f%d(x)" % before for before in range(k))
            text += "node f%d(x: int) returns (y: int); let y = %s; tel\n" % (k, calls)
            # Each keeps 1 and what all before it keep.
            if k < 20:
                self.assert_lines(text, "".join("f%d 0\n" % before for before in range(k + 1)))
            elif k in (20, 40, 63):
                self.assert_limit(text)

    def test_63_equations_back_to_front_in_each_of_many_nodes(self):
        names = ["v%d" % k for k in range(62)]
        links = "".join("v%d=v%d;" % (k, k + 1) for k in range(61))
        node = "node f%d(x:int)returns(y:int);var " + ",".join(names) + ":int;let y=v0;" + links + "v61=x;tel\n"
        numbers = " ".join(str(k) for k in range(62, -1, -1))
        self.assert_lines("".join(node % k for k in range(60)), "".join("f%d %s\n" % (k, numbers) for k in range(60)))

    def test_every_equation_needing_all_behind_it(self):
        names = ["v%d" % k for k in range(62)]
        links = "".join("v%d=x+%s;" % (k, "+".join(names[k + 1:] + ["x"])) for k in range(62))
        text = "node f(x:int)returns(y:int);var " + ",".join(names) + ":int;let y=v0;" + links + "tel\n"
        self.assert_lines(text, "f " + " ".join(str(k) for k in range(62, -1, -1)) + "\n")

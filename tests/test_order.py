"""Texts that are right, and the order in which their equations are told."""

from helper import OrderCase, bytes_of, bool_is, int_is, node_f
from instants.streams import order


class Lines(OrderCase):
    def test_one_node_with_one_equation(self):
        self.assert_lines("node f(x: int) returns (y: int); let y = x; tel", "f 0\n")

    def test_several_nodes_come_in_the_texts_order(self):
        text = (
            "node zz(x: int) returns (y: int); let y = x; tel\n"
            "node aa(x: int) returns (y: int); let y = zz(x); tel\n"
            "node Mm_9(x: int) returns (y: int); let y = aa(zz(x)); tel\n"
        )
        self.assert_lines(text, "zz 0\naa 0\nMm_9 0\n")

    def test_equations_in_order(self):
        self.assert_lines(
            "node f(x: int) returns (a, b, c: int); let a = x; b = a; c = b + a; tel", "f 0 1 2\n")

    def test_equations_out_of_order(self):
        self.assert_lines(
            "node f(x: int) returns (a, b, c: int); let c = b + a; b = a; a = x; tel", "f 2 1 0\n")

    def test_always_the_first_that_is_ready(self):
        text = (
            "node f(x: int) returns (a, b, c, d, e: int);"
            " let a = d; b = x; c = e; d = b; e = x; tel"
        )
        self.assert_lines(text, "f 1 3 0 4 2\n")

    def test_an_equation_made_ready_comes_before_later_ones(self):
        text = "node f(x: int) returns (a, b, c: int); let a = b; b = x; c = x; tel"
        self.assert_lines(text, "f 1 0 2\n")

    def test_numbers_of_two_digits(self):
        names = ["v%d" % k for k in range(12)]
        equations = "".join("v%d = v%d + x; " % (k, k + 1) for k in range(11)) + "v11 = x; "
        text = "node f(x: int) returns (%s: int); let %s tel" % (", ".join(names), equations)
        self.assert_lines(text, "f 11 10 9 8 7 6 5 4 3 2 1 0\n")

    def test_names_after_var(self):
        text = (
            "node f(x: int) returns (y: int); var a: bool; b, c: int;"
            " let y = if a then b else c; a = b < c; b = c; c = x; tel"
        )
        self.assert_lines(text, "f 3 2 1 0\n")

    def test_two_names_and_more_on_the_left(self):
        text = (
            "node two(x: int) returns (a: int; b: bool); let a = x; b = x = 0; tel\n"
            "node three(x: int) returns (a: int; b: bool; c: int);"
            " let c = if b then a else x; (a, b) = two(x); tel\n"
            "node f(x: int) returns (y: int); var a: int; b: bool; c: int;"
            " let y = if b then a else c; (a, b, c) = three(x); tel\n"
        )
        self.assert_lines(text, "two 0 1\nthree 1 0\nf 1 0\n")

    def test_a_call_with_several_outputs_in_brackets_is_alone_still(self):
        self.assert_order_of_f("(y, r) = ((both(x, p)));", "0")

    def test_a_name_may_be_one_nodes_and_another_names(self):
        text = (
            "node f(f: int) returns (g: int); let g = f; tel"
            " node g(f: int) returns (g: int); let g = f(f); tel"
        )
        self.assert_lines(text, "f 0\ng 0\n")

    def test_words_are_told_apart_by_small_and_large_letters(self):
        self.assert_lines(
            "node Node(IF: int) returns (If, iF: int); let If = iF; iF = IF; tel", "Node 1 0\n")


class Dependence(OrderCase):
    def test_behind_pre_nothing_is_needed(self):
        self.assert_order_of_f("y = 0 -> pre (y + z * (if r then y else 1)); r = y < 1;", "0 1")

    def test_pre_binds_what_is_next_to_it_alone(self):
        self.assert_order_of_f("y = 0 -> pre y + (if r then 1 else 2); r = p;", "1 0")

    def test_on_the_right_of_fby_nothing_is_needed(self):
        self.assert_order_of_f("y = 0 fby y + (if r then 1 else 2); r = y = 1;", "0 1")

    def test_the_right_of_fby_goes_on_behind_an_arrow(self):
        self.assert_order_of_f("y = x fby z -> (if r then 1 else 2); r = y = 1;", "0 1")

    def test_on_the_left_of_fby_something_is(self):
        self.assert_order_of_f("y = (if r then 1 else 2) fby x; r = p;", "1 0")

    def test_both_sides_of_an_arrow(self):
        self.assert_order_of_f("y = (if r then 1 else 2) -> x; r = p;", "1 0")
        self.assert_order_of_f("y = x -> if r then 1 else 2; r = p;", "1 0")

    def test_within_pre_everything_stays_behind_it(self):
        self.assert_order_of_f("y = 0 -> pre (1 -> one(y)); r = y = 1;", "0 1")

    def test_what_a_call_is_given(self):
        self.assert_order_of_f("y = join(x, r); r = p;", "1 0")

    def test_what_stands_behind_every(self):
        self.assert_order_of_f("y = reset one(x) every r; r = p;", "1 0")
        self.assert_order_of_f("y = activate one(x) every r initial (0); r = p;", "1 0")

    def test_of_each_part_of_an_if(self):
        self.assert_order_of_f("y = if r then x else z; r = p;", "1 0")
        self.assert_order_of_f("r = if p then y = 0 else q; y = x;", "1 0")
        self.assert_order_of_f("r = if p then q else y = 0; y = x;", "1 0")

    def test_one_name_behind_pre_and_not(self):
        self.assert_order_of_f("y = 0 -> pre y + (if r or (true -> pre r) then 1 else 2); r = p;", "1 0")


class Expressions(OrderCase):
    def test_each_operator_between_ints(self):
        for sign in ("+", "-", "*", "/", "mod"):
            self.assert_right(int_is("x %s z" % sign))

    def test_each_operator_that_compares(self):
        for sign in ("=", "<>", "<", "<=", ">", ">="):
            self.assert_right(bool_is("x %s z" % sign))
        for sign in ("=", "<>"):
            self.assert_right(bool_is("p %s q" % sign))

    def test_each_operator_between_bools(self):
        for sign in ("and", "or", "xor", "=>"):
            self.assert_right(bool_is("p %s q" % sign))

    def test_operators_before_one(self):
        for expression in ("-x", "- - x", "-1", "0 -> pre x", "0 -> pre - x", "0 -> - pre x"):
            self.assert_right(int_is(expression))
        for expression in ("not p", "not not p", "true -> not pre not p"):
            self.assert_right(bool_is(expression))

    def test_arrows_and_fby_of_both_kinds(self):
        for sign in ("->", "fby"):
            self.assert_right(int_is("x %s z" % sign))
            self.assert_right(bool_is("p %s q" % sign))

    def test_ifs(self):
        self.assert_right(int_is("if p then x else z"))
        self.assert_right(bool_is("if p then q else x < z"))
        self.assert_right(int_is("if if p then q else p then if q then 1 else 2 else if p then 3 else 4"))

    def test_calls(self):
        self.assert_right(int_is("one(x)"))
        self.assert_right(int_is("join(x + 1, p and q)"))
        self.assert_right(int_is("one(one(x)) + join(one(1), flip(true))"))

    def test_reset(self):
        self.assert_right(int_is("reset one(x) every p"))
        self.assert_right(int_is("reset join(x, p) every not q"))
        self.assert_right(node_f("(y, r) = reset both(x, p) every q;"))

    def test_activate(self):
        self.assert_right(int_is("activate one(x) every p initial (0)"))
        self.assert_right(int_is("activate one(x) every flip(p) initial (-2147483647)"))
        self.assert_right(bool_is("activate flip(p) every q initial (true)"))
        self.assert_right(node_f("(y, r) = activate both(x, p) every q initial (-1, false);"))

    def test_what_stands_behind_every_is_as_behind_not(self):
        self.assert_right(int_is("reset one(x) every p + 1"))
        self.assert_right(int_is("reset one(x) every not not p * 2 + z"))
        self.assert_right(int_is("reset one(x) every if p then q else x < z and q"))
        self.assert_right(int_is("reset one(x) every (x < z) - 1"))
        self.assert_right(int_is("activate one(x) every if p then q else x < z and q initial (1) + 1"))
        self.assert_right(int_is("reset one(x) every reset flip(p) every q"))


class Binding(OrderCase):
    """Where the kinds fit one way alone, a text is right only if it's read that way."""

    def test_what_binds_more_and_less(self):
        for expression in (
            "p -> x < z", "p => x < z", "x < z => p", "x = z and p", "p and x = z", "p or x <> z",
            "x + 1 < z * 2", "x < z + 1", "x * 2 = z", "not p = q", "- x < z", "p = not q", "p => q -> q or p",
        ):
            self.assert_right(bool_is(expression))

    def test_an_arrow_binds_less_than_implication(self):
        self.assert_rule(bool_is("1 @-> p => q"))
        self.assert_rule(bool_is("1 @fby p => q"))
        self.assert_rule(bool_is("x @=> p -> z"))
        self.assert_rule(bool_is("x @=> p fby z"))

    def test_implication_binds_less_than_or(self):
        self.assert_rule(bool_is("1 @=> p or q"))
        self.assert_rule(bool_is("p or q @=> 1"))
        self.assert_rule(bool_is("x @or p => z"))

    def test_or_and_xor_bind_less_than_and(self):
        self.assert_rule(bool_is("1 @or p and q"))
        self.assert_rule(bool_is("p and q @xor 1"))
        self.assert_rule(bool_is("x @and p or z"))

    def test_and_binds_less_than_what_compares(self):
        self.assert_rule(bool_is("1 @and x = z"))
        self.assert_rule(bool_is("x < z @and 1"))

    def test_what_compares_binds_less_than_sums(self):
        self.assert_rule(bool_is("p @= x + z"))
        self.assert_rule(bool_is("x - z @< p"))

    def test_sums_bind_less_than_products(self):
        self.assert_rule(int_is("p @+ x * z"))
        self.assert_rule(int_is("x / z @- p"))
        self.assert_rule(int_is("x mod z @- p"))

    def test_products_bind_less_than_what_stands_before_one(self):
        self.assert_rule(int_is("p @* - x"))
        self.assert_rule(int_is("- x @mod p"))
        self.assert_rule(bool_is("not p @* 2"))

    def test_from_the_left(self):
        # Both are wrong for int and bool alike; the one within, the left, has right parts alone.
        for first, second in (("+", "-"), ("-", "+"), ("*", "/"), ("/", "mod"), ("mod", "*")):
            self.assert_rule(int_is("x @%s p %s q" % (first, second)))
        for first, second in (("or", "xor"), ("xor", "or"), ("and", "and")):
            self.assert_rule(bool_is("p @%s x %s x" % (first, second)))
            self.assert_right(bool_is("p %s q %s p" % (first, second)))

    def test_from_the_right(self):
        # The one within is the right one.
        self.assert_rule(int_is("0 -> pre x @-> z"))
        self.assert_rule(int_is("0 -> pre x @fby z"))
        self.assert_right(int_is("0 fby y -> y"))
        self.assert_right(int_is("0 fby y fby y"))
        self.assert_rule(bool_is("x => p @=> x"))

    def test_the_last_part_of_an_if_is_as_long_as_it_can_be(self):
        self.assert_rule(int_is("@if p then x else x = z"))
        self.assert_right(int_is("1 + if p then x else z + 1"))
        self.assert_right(int_is("- if p then x else 0 -> 1 fby z"))
        self.assert_right(bool_is("p and if p then q else x = z"))
        self.assert_right(bool_is("p and if p then q else q => p -> q"))
        self.assert_right(bool_is("(if p then x else z) = z"))

    def test_a_whole_if_may_be_compared(self):
        # Its last part compares already, so it can't be longer.
        self.assert_right(bool_is("if p then q else x = z = q"))
        self.assert_right(bool_is("p and not if p then q else x < z <> q or p"))
        self.assert_right(bool_is("if p then q else if q then p else x = z = p <> q"))
        self.assert_token(bool_is("q = if p then q else x = z @= q"))
        self.assert_token(bool_is("if p then q else x = z = q @= p"))
        self.assert_right(bool_is("reset flip(p) every if p then q else x = z = q"))


class Blanks(OrderCase):
    def test_each_blank(self):
        for blank in (" ", "\t", "\n", "\r", " \r\n\t ", "--\n", "-- node tel $ \x00\xff\n"):
            words = "node f ( x : int ) returns ( y : int ) ; let y = x ; tel".split(" ")
            self.assert_lines(blank.join(words), "f 0\n")
            self.assert_lines(blank + blank.join(words) + blank, "f 0\n")

    def test_without_blanks_where_none_is_needed(self):
        self.assert_lines("node f(x:int)returns(y:int;b:bool);let y=-x*(2)-1;b=not(x<=y);tel", "f 0 1\n")
        self.assert_lines("node f(x:int)returns(y:int);let y=0->pre(x)+1mod 2;tel", "f 0\n")

    def test_a_remark_at_the_texts_end(self):
        right = "node f(x: int) returns (y: int); let y = x; tel"
        for remark in ("--", "-- told", "--\n", "----", "-- node", " --\r"):
            self.assert_lines(right + remark, "f 0\n")

    def test_a_remark_ends_before_a_line_feed_alone(self):
        self.assert_lines("node f(x: int) -- \r ( ; \n returns (y: int); let y = x; tel", "f 0\n")
        self.assert_token("node f(x: int) -- \r returns (y: int); let y = x; tel@")

    def test_tokens_as_long_as_they_can_be(self):
        self.assert_right(int_is("x->z"))
        self.assert_right(int_is("x- -z"))
        self.assert_right(int_is("x--z\n"))
        self.assert_token(node_f("r = true; y = x--z;").replace("\ntel\n", "@"))
        self.assert_right(bool_is("x<=z"))
        self.assert_right(bool_is("x<>z"))
        self.assert_right(bool_is("p=>q"))
        self.assert_right(bool_is("x>=z"))
        self.assert_right(bool_is("x<-z"))
        self.assert_right(bool_is("x=-z"))
        self.assert_right(bool_is("x<--z\nz"))
        self.assert_token(bool_is("x< @=z"))
        self.assert_token(bool_is("x< @>z"))
        self.assert_token(bool_is("x= @>z"))
        self.assert_token(bool_is("x> @=z"))
        self.assert_token(int_is("x- @>z"))
        self.assert_token(bool_is("x<=@>z"))
        self.assert_token(bool_is("x=>@=z"))
        self.assert_token(bool_is("x<>@=z"))
        self.assert_token(int_is("x->@>z"))
        self.assert_token(int_is("@=x"))
        self.assert_token(node_f("y @=> x;"))

    def test_a_word_right_behind_a_number(self):
        self.assert_right(int_is("if p then 1else 2"))
        self.assert_token(int_is("1@x"))
        self.assert_token(int_is("1@_"))
        self.assert_rule(int_is("@x1"))


class Most(OrderCase):
    TEXT = "node f(x: int) returns (y, z: int); let y = z; z = x; tel node gg(x: int) returns (y: int); let y = x; tel"
    LINES = "f 1 0\ngg 0\n"

    def test_just_enough_and_one_less(self):
        length = len(self.LINES)
        wanted = [length] + bytes_of(self.LINES)
        self.assertEqual(order(length, bytes_of(self.TEXT)), wanted)
        self.assertEqual(order(length + 1, bytes_of(self.TEXT)), wanted)
        self.assertEqual(order(2147483647, bytes_of(self.TEXT)), wanted)
        self.assertEqual(order(length - 1, bytes_of(self.TEXT)), [-1])

    def test_none_at_all(self):
        self.assertEqual(order(0, bytes_of(self.TEXT)), [-1])

    def test_below_0_comes_before_all_else(self):
        for most in (-1, -2, -2147483648):
            self.assertEqual(order(most, bytes_of(self.TEXT)), [-2])
            self.assertEqual(order(most, []), [-2])
            self.assertEqual(order(most, bytes_of("node $")), [-2])
            self.assertEqual(order(most, bytes_of("x" * 40)), [-2])
            self.assertEqual(order(most, bytes_of(self.TEXT.replace("z = x", "z = y"))), [-2])

    def test_other_refusals_come_before_too_long(self):
        self.assertEqual(order(0, []), [-100])
        self.assertEqual(order(0, bytes_of("x" * 40)), [-5])
        text = self.TEXT.replace("z = x", "z = w")
        self.assertEqual(order(0, bytes_of(text)), [-1000000 - text.index("w")])

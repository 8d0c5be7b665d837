"""Each rule, broken by itself and beside others, and its place."""

from helper import NODES, OrderCase, bool_is, int_is, node_f


class Twice(OrderCase):
    """The first rule."""

    def test_a_nodes_name(self):
        node = "node %s(x: int) returns (y: int); let y = x; tel "
        self.assert_rule(node % "f" + node % "@f")
        self.assert_rule(node % "f" + node % "g" + node % "@f" + node % "g")
        self.assert_right(node % "f" + node % "F")

    def test_a_declared_name(self):
        self.assert_rule("node f(x, @x: int) returns (y: int); let y = x; tel")
        self.assert_rule("node f(x: int; @x: bool) returns (y: int); let y = 1; tel")
        self.assert_rule("node f(x: int) returns (@x: int); let x = 1; tel")
        self.assert_rule("node f(x: int) returns (y, @y: int); let y = 1; tel")
        self.assert_rule("node f(x: int) returns (y: int); var @x: int; let y = 1; x = 2; tel")
        self.assert_rule("node f(x: int) returns (y: int); var @y: int; let y = 1; tel")
        self.assert_rule(
            "node f(x: int) returns (y: int); var a: int; b: bool; @a: bool; let y = 1; a = 1; b = true; tel")

    def test_the_least_of_several(self):
        self.assert_rule("node f(x, @x, x: int) returns (x, y: int); let y = 1; x = 2; tel")

    def test_the_same_name_in_two_nodes(self):
        node = "node %s(x: int) returns (y: int); let y = x; tel "
        self.assert_right(node % "f" + node % "g")


class Unknown(OrderCase):
    """The second rule."""

    def test_a_name_that_is_not_declared(self):
        self.assert_rule(int_is("@w"))
        self.assert_rule(int_is("x + (1 - @w)"))
        self.assert_rule(int_is("0 -> pre @w"))
        self.assert_rule(int_is("0 fby @w"))
        self.assert_rule(int_is("one(@w)"))
        self.assert_rule(int_is("reset one(x) every @w"))
        self.assert_rule(int_is("if p then x else @w"))

    def test_a_name_of_another_node(self):
        first = "node g(a: int) returns (b: int); let b = a; tel "
        self.assert_rule(first + "node f(x: int) returns (y: int); let y = @a; tel")
        self.assert_rule(first + "node f(x: int) returns (y: int); let y = @b; tel")

    def test_a_nodes_name_is_no_name_there(self):
        self.assert_rule(int_is("@one"))
        self.assert_rule(int_is("@f"))

    def test_a_call_of_no_node(self):
        self.assert_rule(int_is("@none(x)"))
        self.assert_rule(int_is("reset @none(x) every p"))
        self.assert_rule(int_is("activate @none(x) every p initial (1)"))
        self.assert_rule(int_is("@x(x)"))

    def test_a_call_of_the_node_itself_and_of_one_behind(self):
        self.assert_rule(int_is("@f(x, x, p, p)"))
        self.assert_rule(int_is("@g(x)") + "node g(x: int) returns (y: int); let y = x; tel")

    def test_the_least_of_several(self):
        self.assert_rule(int_is("@w + v"))
        self.assert_rule(int_is("@none(w)"))


class Lefts(OrderCase):
    """The third rule."""

    def test_not_declared(self):
        self.assert_rule(node_f("y = x; r = p; @w = 1;"))
        self.assert_rule(node_f("@w = 1; y = x; r = p;"))
        self.assert_rule(node_f("(y, r) = both(x, p); (@w, v) = both(x, p);"))

    def test_an_input(self):
        self.assert_rule(node_f("y = x; r = p; @x = 1;"))
        self.assert_rule(node_f("(y, @p) = both(x, q); r = true;"))

    def test_a_nodes_name(self):
        self.assert_rule(node_f("y = x; r = p; @one = 1;"))

    def test_an_equation_before_it(self):
        self.assert_rule(node_f("y = x; r = p; @y = x;"))
        self.assert_rule(node_f("y = x; (@y, r) = both(x, p);"))
        self.assert_rule(node_f("(y, r) = both(x, p); @r = true;"))

    def test_in_the_same_one(self):
        self.assert_rule(node_f("r = p; (y, @y) = both(x, p);"))


class Without(OrderCase):
    """The fourth rule."""

    def test_an_output_without(self):
        self.assert_rule("node f(x: int) returns (y, @z: int); let y = x; tel")
        self.assert_rule("node f(x: int) returns (@y, z: int); let z = x; tel")

    def test_a_name_after_var_without(self):
        self.assert_rule("node f(x: int) returns (y: int); var @a: int; let y = x; tel")
        self.assert_rule("node f(x: int) returns (y: int); var a: int; b, @c: bool; let y = x; a = 1; b = true; tel")

    def test_the_least_of_several(self):
        self.assert_rule("node f(x: int) returns (y, @z: int); var a: int; let y = w; tel")

    def test_before_its_second_declaration(self):
        self.assert_rule("node f(x: int) returns (@y, z: int); var y: int; let z = x; tel")


class Kinds(OrderCase):
    """The fifth rule."""

    def test_operators_that_need_ints(self):
        for sign in ("+", "-", "*", "/", "mod"):
            for left, right in (("x", "p"), ("p", "x"), ("p", "q"), ("true", "1"), ("1", "false")):
                self.assert_rule(int_is("%s @%s %s" % (left, sign, right)))
        for sign in ("<", "<=", ">", ">="):
            for left, right in (("x", "p"), ("p", "x"), ("p", "q")):
                self.assert_rule(bool_is("%s @%s %s" % (left, sign, right)))
        self.assert_rule(int_is("@- p"))
        self.assert_rule(int_is("@-true"))

    def test_operators_that_need_bools(self):
        for sign in ("and", "or", "xor", "=>"):
            for left, right in (("x", "p"), ("p", "x"), ("x", "z"), ("true", "1")):
                self.assert_rule(bool_is("%s @%s %s" % (left, sign, right)))
        self.assert_rule(bool_is("@not x"))

    def test_operators_that_need_two_alike(self):
        for sign in ("=", "<>"):
            for left, right in (("x", "p"), ("p", "x"), ("1", "true")):
                self.assert_rule(bool_is("%s @%s %s" % (left, sign, right)))
        for sign in ("->", "fby"):
            self.assert_rule(int_is("x @%s p" % sign))
            self.assert_rule(int_is("p @%s x" % sign))

    def test_what_operators_make(self):
        for made in ("x + z", "x mod z", "- x", "0 -> pre x", "x -> z", "x fby z", "if p then x else z", "one(x)",
                     "(x)", "7", "reset one(x) every p"):
            self.assert_rule(node_f("y = 0; r @= " + made + ";"))
            self.assert_right(int_is(made))
        for made in ("x < z", "x <= z", "x > z", "x >= z", "x = z", "x <> z", "p = q", "not p", "p and q", "p => q",
                     "true -> pre p", "p -> q", "p fby q", "if p then q else p", "flip(p)", "true", "false"):
            self.assert_rule(node_f("r = true; y @= " + made + ";"))
            self.assert_right(bool_is(made))

    def test_ifs(self):
        self.assert_rule(int_is("@if x then x else z"))
        self.assert_rule(int_is("@if p then x else q"))
        self.assert_rule(int_is("@if p then q else x"))
        self.assert_rule(int_is("1 + @if 1 then 2 else 3"))

    def test_what_a_call_is_given(self):
        for before, behind in (("", ""), ("reset ", " every p"), ("activate ", " every p initial (1)")):
            self.assert_rule(int_is(before + "@one(p)" + behind))
            self.assert_rule(int_is(before + "@one(x, z)" + behind))
            self.assert_rule(int_is(before + "@join(x)" + behind))
            self.assert_rule(int_is(before + "@join(p, x)" + behind))
            self.assert_rule(int_is(before + "@join(x, p, p)" + behind))

    def test_what_stands_behind_every(self):
        self.assert_rule(int_is("reset @one(x) every x"))
        self.assert_rule(int_is("reset @one(x) every 1"))
        self.assert_rule(int_is("activate @one(x) every - x initial (1)"))
        self.assert_rule(int_is("reset @join(x) every p"))

    def test_values_behind_initial(self):
        self.assert_rule(int_is("activate @one(x) every p initial (true)"))
        self.assert_rule(int_is("activate @one(x) every p initial (1, 2)"))
        self.assert_rule(bool_is("activate @flip(p) every p initial (1)"))
        self.assert_rule(bool_is("activate @flip(p) every p initial (-1)"))
        self.assert_rule(node_f("(y, r) = activate @both(x, p) every p initial (1);"))
        self.assert_rule(node_f("(y, r) = activate @both(x, p) every p initial (true, 1);"))
        self.assert_rule(node_f("(y, r) = activate @both(x, p) every p initial (1, true, 1);"))

    def test_a_call_with_two_outputs_in_an_expression(self):
        for before, behind in (("", ""), ("reset ", " every p"), ("activate ", " every p initial (1, true)")):
            call = before + "@both(x, p)" + behind
            self.assert_rule(int_is("1 + " + call))
            self.assert_rule(int_is("- " + call))
            self.assert_rule(int_is("one(" + call + ")"))
            self.assert_rule(int_is("if p then 1 else " + call))
            self.assert_rule(int_is("0 -> pre " + call))
        self.assert_rule(int_is("reset one(x) every @both(x, p)"))
        self.assert_rule(int_is("@both(x, p) + w"))
        self.assert_rule(node_f("(y, r) = 1 -> @both(x, p);"))

    def test_both_sides_of_an_equation(self):
        self.assert_rule(node_f("y @= p; r = true;"))
        self.assert_rule(node_f("y = 1; r @= x;"))
        self.assert_rule(node_f("y @= both(x, p); r = true;"))
        self.assert_rule(node_f("(y, r) @= x;"))
        self.assert_rule(node_f("(y, r) @= one(x);"))
        self.assert_rule(node_f("(r, y) @= both(x, p);"))

    def test_too_many_on_the_left(self):
        text = NODES + "node f(x: int) returns (y: int; r: bool; s: int); let (y, r, s) @= both(x, true); tel"
        self.assert_rule(text)

    def test_of_right_parts_alone(self):
        # What's wrong within something is told, and not what's round it.
        self.assert_rule(int_is("p + @w"))
        self.assert_rule(int_is("p + (x @+ p)"))
        self.assert_rule(int_is("x + (p @+ q) + p"))
        self.assert_rule(int_is("- - @- p"))
        self.assert_rule(bool_is("not (1 = @w)"))
        self.assert_rule(int_is("if 1 then x else @w"))
        self.assert_rule(int_is("if p then q else 1 @+ p"))
        self.assert_rule(int_is("one(p, @w)"))
        self.assert_rule(int_is("one(x, 1 @+ p)"))
        self.assert_rule(int_is("1 + both(@w, p)"))
        self.assert_rule(int_is("reset one(p) every @w"))
        self.assert_rule(int_is("reset one(p) every @not 1"))
        self.assert_rule(node_f("y = flip(@w); r = true;"))
        self.assert_rule(node_f("y = p -> @w; r = true;"))
        self.assert_rule(int_is("p + @none(x)"))

    def test_the_least_of_several(self):
        self.assert_rule(int_is("(x @+ p) + (x + q)"))
        self.assert_rule(int_is("one(@- p) + one(p)"))
        self.assert_rule(int_is("@one(p) + w"))


class Beginnings(OrderCase):
    """The sixth rule."""

    def test_pre_of_what_is_not_begun(self):
        self.assert_rule(int_is("0 -> @pre pre x"))
        self.assert_rule(int_is("0 -> @pre (1 + pre x)"))
        self.assert_rule(int_is("0 -> @pre pre pre x"))
        self.assert_rule(bool_is("true -> @pre not pre p"))

    def test_what_is_begun(self):
        for begun in ("7", "x", "x + z", "- x", "(x)", "if p then x else z", "one(x)", "join(x, true)", "0 -> pre x",
                      "0 fby x", "0 fby (0 -> pre x)", "x -> pre z", "reset one(x) every p"):
            self.assert_right(int_is("0 -> pre (" + begun + ")"))
            self.assert_right(int_is(begun))

    def test_what_is_not_begun(self):
        for late in ("pre x", "x + pre x", "pre x * x", "- pre x", "(pre x)", "if pre p then x else z",
                     "if p then pre x else z", "if p then x else pre z"):
            self.assert_rule(node_f("r = true; y @= " + late + ";"))
            self.assert_rule(int_is("0 -> @pre (" + late + ")"))
            self.assert_right(int_is("0 -> " + late))

    def test_the_left_of_an_arrow(self):
        self.assert_rule(int_is("0 -> (pre x @-> z)"))
        self.assert_rule(int_is("0 -> (1 + pre x @-> z)"))
        self.assert_rule(node_f("r = true; y @= pre x -> z;"))
        self.assert_rule(int_is("0 -> @pre (pre x -> z)"))

    def test_both_sides_of_fby(self):
        self.assert_rule(int_is("0 -> (pre x @fby z)"))
        self.assert_rule(int_is("0 -> (x @fby pre z)"))
        self.assert_rule(int_is("0 -> (pre x @fby pre z)"))
        self.assert_rule(node_f("r = true; y @= x fby pre z;"))
        self.assert_rule(node_f("r = true; y @= pre x fby z;"))
        self.assert_right(int_is("x fby 0 -> pre z"))

    def test_what_a_call_is_given(self):
        self.assert_rule(int_is("0 -> @one(pre x)"))
        self.assert_rule(int_is("0 -> @join(x, pre p)"))
        self.assert_rule(int_is("0 -> reset @one(pre x) every p"))
        self.assert_rule(int_is("0 -> reset @one(x) every pre p"))
        self.assert_rule(int_is("0 -> activate @one(x) every pre p initial (1)"))
        self.assert_rule(int_is("0 -> activate @one(1 + pre x) every p initial (1)"))
        self.assert_rule(node_f("r = true; y @= one(pre x);"))

    def test_the_right_of_an_equation(self):
        self.assert_rule(node_f("r = true; y @= pre x;"))
        self.assert_rule(node_f("(y, r) @= both(pre x, p);"))

    def test_whatever_else_is_wrong(self):
        # Names that aren't declared are begun; what pre makes isn't, whatever its kind.
        self.assert_rule(int_is("0 -> pre @w"))
        self.assert_rule(int_is("0 -> @pre pre w"))
        self.assert_rule(int_is("0 -> @pre pre (x + p)"))
        self.assert_rule(int_is("0 @-> pre pre p"))


class Circles(OrderCase):
    """The seventh rule."""

    def test_an_equation_with_itself(self):
        self.assert_rule(node_f("r = true; @y = y;"))
        self.assert_rule(node_f("r = true; @y = 0 -> y + 1;"))
        self.assert_rule(node_f("r = true; @y = y fby 1;"))
        self.assert_rule(node_f("r = true; @y = one(y);"))
        self.assert_rule(node_f("(@y, r) = both(y, p);"))
        self.assert_rule(node_f("(@y, r) = both(x, r);"))
        self.assert_rule(node_f("(@y, r) = reset both(x, p) every r;"))
        self.assert_rule(node_f("r = true; @y = if p then 1 else y;"))

    def test_behind_pre_and_on_the_right_of_fby_there_is_none(self):
        for right in ("0 -> pre y", "0 fby y", "0 -> pre (y + one(y))", "0 fby 1 -> y", "0 fby (y + y)"):
            self.assert_right(int_is(right))

    def test_beside_pre_there_is(self):
        self.assert_rule(node_f("r = true; @y = (0 -> pre y) + y;"))
        self.assert_rule(node_f("r = true; @y = (0 fby y) + y;"))
        self.assert_rule(node_f("r = true; @y = (y fby y);"))

    def test_several_equations(self):
        self.assert_rule(node_f("@y = if r then 1 else 2; r = y = 1;"))
        chain = "node f(x: int) returns (a, b, c, d: int); let %s tel"
        self.assert_rule(chain % "@a = b; b = c; c = d; d = a;")
        self.assert_rule(chain % "a = x; @b = c; c = d; d = b;")
        self.assert_right(chain % "a = b; b = c; c = d; d = 0 -> pre a;")

    def test_what_only_leads_to_a_circle_is_in_none(self):
        chain = "node f(x: int) returns (a, b, c, d: int); let %s tel"
        self.assert_rule(chain % "a = b; @b = c; c = b; d = x;")
        self.assert_rule(chain % "a = b; b = c; @c = d; d = c;")
        self.assert_rule(chain % "@a = b; b = a; c = d; d = c;")
        self.assert_rule(chain % "a = c; b = x; @c = d + b; d = c;")
        self.assert_rule(chain % "@d = a; a = b; b = d + c; c = x;")

    def test_what_only_comes_from_a_circle_and_goes_to_another_is_in_none(self):
        names = "node f(x: int) returns (a, b, c, d, e: int); let %s tel"
        self.assert_rule(names % "c = d; @d = e; e = d; a = b; b = a + c;")

    def test_through_names_that_should_have_no_equation(self):
        self.assert_rule(node_f("r = true; @y = z; z = y;"))
        self.assert_rule(node_f("r = true; @y = w; w = y;"))
        self.assert_rule(node_f("(@y, p) = both(x, p); r = true;"))

    def test_a_name_with_several_equations_has_the_first(self):
        names = "node f(x: int) returns (a, b: int); let %s tel"
        self.assert_rule(names % "a = b; b = x; @b = a;")
        self.assert_rule(names % "@a = b; b = a; b = x;")
        self.assert_rule(names % "b = x; a = b; @b = b;")
        self.assert_rule(names % "a = x; b = a; @b = b; a = b;")
        self.assert_rule(names % "b = x; @b = a; a = b;")
        self.assert_rule(names % "@b = a; a = b; b = x;")

    def test_a_name_again_beside_another_that_has_its_equation_there(self):
        first = "node two(x: int) returns (a, b: int); let a = x; b = x; tel\n"
        names = first + "node f(x: int) returns (a, b: int); let b = x; %s tel"
        self.assert_rule(names % "(a, @b) = two(b);")
        self.assert_rule(names % "(@a, b) = two(a);")
        self.assert_rule(names % "(@a, b) = two(a + b);")

    def test_an_input_with_several_equations_has_the_first_too(self):
        names = "node f(x, z: int) returns (a, b: int); let %s tel"
        self.assert_rule(names % "@a = z; z = a; z = x; b = x;")
        self.assert_rule(names % "a = z; @z = x; z = a; b = x;")


class Several(OrderCase):
    def test_of_different_rules_in_one_node(self):
        self.assert_rule(node_f("@y = w + y; r = 1;"))
        self.assert_rule(node_f("y @= pre p; r = w;"))
        self.assert_rule(node_f("y = @w; r = 1 + p;"))
        self.assert_rule(node_f("y = 1 @+ p; r = w; y = 2;"))
        self.assert_rule("node f(x, @x: int) returns (y, z: int); let y = w; tel")

    def test_in_different_nodes(self):
        first = "node a(x: int) returns (y: int); let y = x %s; tel "
        second = "node b(x, %s: int) returns (y: int); let y = x; tel "
        self.assert_rule(first % "@+ true" + second % "x")
        self.assert_rule(first % "" + second % "@x")
        self.assert_rule(first % "" + second % "z" + first.replace("node a", "node @a") % "")

    def test_each_node_is_judged_by_those_before_it(self):
        first = "node a(x: int) returns (y: bool); let y = x = 0; tel "
        second = "node b(x: int) returns (y: bool); let y = a(%s); tel "
        self.assert_right(first + second % "x")
        self.assert_rule(first + "node b(x: bool) returns (y: bool); let y = @a(x); tel ")

    def test_places_at_the_texts_beginning_and_end(self):
        self.assert_rule("--\n" * 20 + "node f(x: int) returns (y: int); let y = @w; tel" + "--\n" * 20)
        blanks = " " * (65536 - 46)
        self.assert_rule("node f(x: int) returns (y: int); let y =" + blanks + "@w; tel")

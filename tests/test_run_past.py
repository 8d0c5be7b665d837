"""What looks back: pre, -> and fby, one within another and in parts that aren't taken."""

from helper import RunCase

COUNT = [10, 20, 30, 40, 50]


class Past(RunCase):
    def assert_int(self, expression, told, column=COUNT):
        self.assert_stream("node f(x: int) returns (y: int); let y = %s; tel" % expression, column, told)

    def test_pre(self):
        self.assert_int("0 -> pre x", [0, 10, 20, 30, 40])
        self.assert_int("7 -> pre x + x", [7, 30, 50, 70, 90])
        self.assert_int("7 -> pre (x + x)", [7, 20, 40, 60, 80])

    def test_an_arrow(self):
        self.assert_int("x -> 1", [10, 1, 1, 1, 1])
        self.assert_int("1 -> x", [1, 20, 30, 40, 50])

    def test_fby(self):
        self.assert_int("7 fby x", [7, 10, 20, 30, 40])
        self.assert_int("x fby 7", [10, 7, 7, 7, 7])
        self.assert_int("x fby x + 1", [10, 11, 21, 31, 41])

    def test_of_truth_values(self):
        text = "node f(p: bool) returns (q: bool); let q = %s; tel"
        column = [1, 1, 0, 1, 0]
        self.assert_stream(text % "true -> pre p", column, [1, 1, 1, 0, 1])
        self.assert_stream(text % "false fby not p", column, [0, 0, 0, 1, 0])
        self.assert_stream(text % "p and not (false -> pre p)", column, [1, 0, 0, 1, 0])
        self.assert_stream(text % "true -> false", column, [1, 0, 0, 0, 0])

    def test_pre_of_pre(self):
        self.assert_int("0 -> pre (1 -> pre x)", [0, 1, 10, 20, 30])
        self.assert_int("0 -> pre (1 -> pre (2 -> pre x))", [0, 1, 2, 10, 20])
        self.assert_int("0 -> 1 -> pre x", [0, 10, 20, 30, 40])

    def test_fby_of_fby(self):
        self.assert_int("1 fby 2 fby x", [1, 2, 10, 20, 30])
        self.assert_int("1 fby 2 fby 3 fby x", [1, 2, 3, 10, 20])
        self.assert_int("(1 fby x) fby 5", [1, 5, 5, 5, 5])
        self.assert_int("(x fby 5) fby (x fby x)", [10, 10, 10, 20, 30])

    def test_one_in_another(self):
        self.assert_int("0 -> pre (1 fby x)", [0, 1, 10, 20, 30])
        self.assert_int("1 fby 0 -> pre x", [1, 0, 10, 20, 30])
        self.assert_int("(0 -> pre x) fby x", [0, 10, 20, 30, 40])
        self.assert_int("5 -> ((0 -> pre x) fby x)", [5, 10, 20, 30, 40])
        self.assert_int("0 -> pre (x -> 3)", [0, 10, 3, 3, 3])
        self.assert_int("0 -> pre (x -> 3) + (4 -> 5)", [0, 15, 8, 8, 8])
        self.assert_int("(1 -> 2) fby (3 -> 4)", [1, 3, 4, 4, 4])

    def test_arrows_behind_arrows(self):
        self.assert_int("1 -> 2 -> 3", [1, 3, 3, 3, 3])
        self.assert_int("(1 -> 2) -> 3", [1, 3, 3, 3, 3])
        self.assert_int("1 -> 2 fby 3", [1, 3, 3, 3, 3])
        self.assert_int("1 fby 2 -> 3", [1, 2, 3, 3, 3])

    def test_back_to_the_name_itself(self):
        self.assert_int("0 -> pre y + x", [0, 20, 50, 90, 140])
        self.assert_int("x -> pre y + x", [10, 30, 60, 100, 150])
        self.assert_int("0 fby y + x", [0, 10, 30, 60, 100])
        self.assert_int("0 -> pre (1 -> pre y) + 1", [0, 2, 1, 3, 2])
        self.assert_int("1 fby 1 fby y + (0 -> pre y)", [1, 1, 1, 2, 2])

    def test_back_to_one_another(self):
        text = "node f(x: int) returns (a, b: int); let a = 0 -> pre b + x; b = 1 -> pre a - x; tel"
        self.assert_told(text, [(1,), (2,), (3,), (4,)], [(0, 1), (3, -2), (1, 0), (4, -3)])
        text = "node f(x: int) returns (a, b: int); let a = 0 fby b; b = 1 fby a; tel"
        self.assert_told(text, [(9,)] * 4, [(0, 1), (1, 0), (0, 1), (1, 0)])

    def test_what_is_behind_pre_may_need_names_worked_out_later(self):
        text = "node f(x: int) returns (a, b, c: int); let a = 0 -> pre (b + c); b = a + x; c = b * 2; tel"
        self.assert_told(text, [(1,), (2,), (3,)], [(0, 1, 2), (3, 5, 10), (15, 18, 36)])
        text = "node f(x: int) returns (a, b: int); let a = 5 fby (0 -> pre (b + 1)); b = a + x; tel"
        self.assert_told(text, [(1,), (2,), (3,), (4,)], [(5, 6), (0, 2), (7, 10), (3, 7)])

    def test_fibonacci(self):
        text = "node f(x: bool) returns (y: int); let y = 0 -> pre (1 -> pre y + y); tel"
        self.assert_stream(text, [0] * 10, [0, 1, 1, 2, 3, 5, 8, 13, 21, 34])

    def test_the_same_words_twice_have_the_same_past(self):
        self.assert_int("(0 -> pre x) + (0 -> pre x)", [0, 20, 40, 60, 80])
        self.assert_int("0 -> pre x - pre x", [0, 0, 0, 0, 0])


class NotTaken(RunCase):
    """In a part that isn't taken the past goes on all the same."""

    def assert_if(self, expression, told):
        text = "node f(p: bool; x: int) returns (y: int); let y = %s; tel" % expression
        self.assert_told(text, [(0, 10), (1, 20), (0, 30), (0, 40), (1, 50)], [[number] for number in told])

    def test_pre(self):
        self.assert_if("if p then 0 -> pre x else -1", [-1, 10, -1, -1, 40])
        self.assert_if("if p then 0 else 1 -> pre x", [1, 0, 20, 30, 0])
        self.assert_if("0 -> if p then pre x else x", [0, 10, 30, 40, 40])
        self.assert_if("if p then 0 -> pre (0 -> pre x) else -1", [-1, 0, -1, -1, 30])

    def test_pre_of_an_if(self):
        self.assert_if("0 -> pre (if p then x else - x)", [0, -10, 20, -30, -40])
        self.assert_if("if (false -> pre p) then x else 0", [0, 0, 30, 0, 0])

    def test_an_arrow_begins_with_the_instance(self):
        self.assert_if("if p then 1 -> 2 else 0", [0, 2, 0, 0, 2])
        self.assert_if("if p then 0 else 1 -> 2", [1, 0, 2, 2, 0])

    def test_fby(self):
        self.assert_if("if p then 1 fby x else 0", [0, 10, 0, 0, 40])
        self.assert_if("if p then 1 fby 2 fby x else 0", [0, 2, 0, 0, 30])

    def test_sums_in_an_if(self):
        text = (
            "node f(p: bool; x: int) returns (y: int); var s: int;"
            " let y = if p then s else 0; s = (0 fby s) + x; tel"
        )
        self.assert_told(text, [(0, 1), (1, 2), (0, 3), (1, 4)], [(0,), (3,), (0,), (10,)])
        text = "node f(p: bool; x: int) returns (y: int); let y = if p then (0 fby y) + x else (0 fby y); tel"
        self.assert_told(text, [(0, 1), (1, 2), (0, 3), (1, 4)], [(0,), (2,), (2,), (6,)])

    def test_on_the_side_of_an_arrow_that_is_not_taken(self):
        self.assert_if("0 -> 1 fby 2 fby x", [0, 2, 10, 20, 30])
        self.assert_if("0 -> (if true -> pre p then pre x else 5)", [0, 5, 20, 5, 5])

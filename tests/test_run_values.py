"""What operators make of values at an instant, and in which order equations may stand."""

from helper import RunCase

LEAST = -2147483648
GREATEST = 2147483647


class Values(RunCase):
    def assert_ints(self, expression, *cases):
        """Cases are x, z and what an expression of them makes, an int."""
        self.assert_told(
            "node f(x, z: int) returns (y: int); let y = %s; tel" % expression,
            [case[:-1] for case in cases], [case[-1:] for case in cases])

    def assert_tests(self, expression, *cases):
        self.assert_told(
            "node f(x, z: int) returns (y: bool); let y = %s; tel" % expression,
            [case[:-1] for case in cases], [case[-1:] for case in cases])

    def assert_table(self, expression, values):
        """What an expression of p and q makes where these are 0 0, 0 1, 1 0, 1 1."""
        self.assert_told(
            "node f(p, q: bool) returns (r: bool); let r = %s; tel" % expression,
            [(0, 0), (0, 1), (1, 0), (1, 1)], [[int(value)] for value in values])

    def test_plus(self):
        self.assert_ints(
            "x + z", (2, 3, 5), (-2, 3, 1), (0, 0, 0), (GREATEST, 1, LEAST), (GREATEST, GREATEST, -2),
            (LEAST, -1, GREATEST), (LEAST, LEAST, 0), (LEAST, GREATEST, -1), (GREATEST, 0, GREATEST),
            (LEAST, 0, LEAST), (1073741824, 1073741824, LEAST), (1073741824, 1073741823, GREATEST),
            (-1073741824, -1073741824, LEAST), (-1073741824, -1073741825, GREATEST))

    def test_minus(self):
        self.assert_ints(
            "x - z", (2, 3, -1), (3, 2, 1), (LEAST, 1, GREATEST), (GREATEST, -1, LEAST), (0, LEAST, LEAST),
            (-1, LEAST, GREATEST), (LEAST, LEAST, 0), (GREATEST, LEAST, -1), (LEAST, GREATEST, 1), (-2, GREATEST, GREATEST))

    def test_times(self):
        self.assert_ints(
            "x * z", (2, 3, 6), (-2, 3, -6), (-2, -3, 6), (0, LEAST, 0), (LEAST, -1, LEAST), (LEAST, LEAST, 0),
            (GREATEST, GREATEST, 1), (GREATEST, LEAST, LEAST), (GREATEST, 2, -2), (LEAST, 2, 0), (65536, 32768, LEAST),
            (65536, 65536, 0), (46341, 46341, -2147479015), (LEAST, 3, LEAST), (123456789, 987654321, -67153019))

    def test_minus_before(self):
        self.assert_ints("-x", (5, 0, -5), (-5, 0, 5), (0, 0, 0), (LEAST, 0, LEAST), (GREATEST, 0, -GREATEST))
        self.assert_ints("- - x", (5, 0, 5), (LEAST, 0, LEAST))
        self.assert_ints("-2147483647 - 1", (0, 0, LEAST))
        self.assert_ints("-(-2147483647 - 1)", (0, 0, LEAST))

    def test_divided(self):
        self.assert_ints(
            "x / z", (7, 2, 3), (-7, 2, -3), (7, -2, -3), (-7, -2, 3), (6, 3, 2), (-6, 3, -2), (6, -3, -2), (-6, -3, 2),
            (1, 2, 0), (-1, 2, 0), (1, -2, 0), (-1, -2, 0), (0, 5, 0), (0, -5, 0),
            (LEAST, -1, LEAST), (LEAST, 1, LEAST), (GREATEST, -1, -GREATEST), (LEAST, LEAST, 1), (GREATEST, LEAST, 0),
            (LEAST, GREATEST, -1), (LEAST, 2, -1073741824), (LEAST, -2, 1073741824), (GREATEST, GREATEST, 1))

    def test_mod(self):
        self.assert_ints(
            "x mod z", (7, 2, 1), (-7, 2, -1), (7, -2, 1), (-7, -2, -1), (6, 3, 0), (-6, 3, 0), (6, -3, 0), (-6, -3, 0),
            (1, 5, 1), (-1, 5, -1), (1, -5, 1), (-1, -5, -1), (LEAST, -1, 0), (LEAST, 1, 0), (LEAST, LEAST, 0),
            (GREATEST, LEAST, GREATEST), (LEAST, GREATEST, -1), (LEAST, 10, -8), (GREATEST, 10, 7), (GREATEST, -10, 7))

    def test_by_0(self):
        for number in (0, 1, -1, GREATEST, LEAST):
            self.assert_ints("x / z", (number, 0, 0))
            self.assert_ints("x mod z", (number, 0, 0))
        self.assert_ints("x / (z - z) + x mod 0", (5, 3, 0))

    def test_numbers(self):
        for digits in ("0", "7", "0007", "2147483647"):
            self.assert_ints(digits, (1, 2, int(digits)))

    def test_comparisons(self):
        pairs = ((1, 2), (2, 1), (2, 2), (-1, 1), (1, -1), (LEAST, GREATEST), (GREATEST, LEAST), (LEAST, LEAST), (0, 0))
        self.assert_tests("x < z", *[(a, b, int(a < b)) for a, b in pairs])
        self.assert_tests("x <= z", *[(a, b, int(a <= b)) for a, b in pairs])
        self.assert_tests("x > z", *[(a, b, int(a > b)) for a, b in pairs])
        self.assert_tests("x >= z", *[(a, b, int(a >= b)) for a, b in pairs])
        self.assert_tests("x = z", *[(a, b, int(a == b)) for a, b in pairs])
        self.assert_tests("x <> z", *[(a, b, int(a != b)) for a, b in pairs])

    def test_truth_values(self):
        self.assert_table("p and q", "0001")
        self.assert_table("p or q", "0111")
        self.assert_table("p xor q", "0110")
        self.assert_table("p => q", "1101")
        self.assert_table("p = q", "1001")
        self.assert_table("p <> q", "0110")
        self.assert_table("not p", "1100")
        self.assert_table("not not p", "0011")
        self.assert_table("true", "1111")
        self.assert_table("false", "0000")

    def test_ifs(self):
        self.assert_table("if p then q else not q", "1001")
        self.assert_ints("if x < z then x else z", (1, 2, 1), (2, 1, 1), (LEAST, GREATEST, LEAST))
        self.assert_ints("if x = 0 then 10 else if x = 1 then 20 else 30", (0, 0, 10), (1, 0, 20), (2, 0, 30))

    def test_what_binds_more(self):
        self.assert_ints("x - z - 1", (10, 3, 6))
        self.assert_ints("x - (z - 1)", (10, 3, 8))
        self.assert_ints("x / z / 2", (100, 5, 10))
        self.assert_ints("x * z mod 7", (5, 3, 1))
        self.assert_ints("x mod z * 7", (5, 3, 14))
        self.assert_ints("1 + x * z", (5, 3, 16))
        self.assert_ints("-x mod z", (7, 4, -3))
        self.assert_ints("- (x mod z)", (7, -4, -3))
        self.assert_ints("-x + z", (7, 4, -3))
        self.assert_ints("1 + if x = 5 then z else z + 10", (5, 3, 4), (6, 3, 14))
        self.assert_table("p => q => false", "1110")
        self.assert_table("(p => q) => false", "0010")
        self.assert_table("not p and q", "0100")
        self.assert_table("p or q and p", "0011")
        self.assert_table("p xor q or p", "0111")
        self.assert_table("not p = q", "0110")

    def test_the_least_number_stays_in_range_on_the_way(self):
        self.assert_ints("(x + z) / 2", (GREATEST, 1, -1073741824))
        self.assert_ints("(x * z) mod 10", (GREATEST, 2, -2))
        self.assert_tests("x + 1 > x", (GREATEST, 0, 0), (5, 0, 1))
        self.assert_ints("(x / z) / z", (LEAST, -1, LEAST))


class Equations(RunCase):
    def test_in_any_order(self):
        rows = [(1,), (5,), (-3,)]
        told = [(2, 4, 7), (10, 20, 23), (-6, -12, -9)]
        parts = ["a = x * 2;", "b = a + a;", "c = b + d;", "d = 3;"]
        for k in range(24):
            left, order = list(parts), []
            for size in (4, 3, 2, 1):
                order.append(left.pop(k % size))
                k //= size
            text = "node f(x: int) returns (a, b, c: int); var d: int; let %s tel" % " ".join(order)
            self.assert_told(text, rows, told)

    def test_outputs_come_as_they_are_declared(self):
        text = "node f(x: int; p: bool) returns (c: bool; a, b: int); let b = x + 2; c = not p; a = x + 1; tel"
        self.assert_told(text, [(1, 0), (7, 1)], [(1, 2, 3), (0, 8, 9)])

    def test_an_output_that_is_just_another_name(self):
        text = "node f(x: int) returns (a, b, c, d: int); let a = b; b = c; c = x; d = 7; tel"
        self.assert_told(text, [(4,), (5,)], [(4, 4, 4, 7), (5, 5, 5, 7)])

    def test_each_node_of_a_text(self):
        text = "".join("node f%d(x: int) returns (y: int); let y = x + %d; tel\n" % (k, k) for k in range(5))
        for k in range(5):
            self.assert_told(text, [(10,), (20,)], [(10 + k,), (20 + k,)], node=k)

    def test_a_node_that_is_not_the_last_and_calls_one_before(self):
        text = (
            "node a(x: int) returns (y: int); let y = x + 1; tel\n"
            "node b(x: int; p: bool) returns (y: int; q: bool); let y = a(a(x)); q = p; tel\n"
            "node c(p: bool) returns (q: bool); let q = not p; tel\n"
        )
        self.assert_told(text, [(1, 1), (5, 0)], [(3, 1), (7, 0)], node=1)
        self.assert_told(text, [(1,), (0,)], [(0,), (1,)], node=2)
        self.assert_told(text, [(1,), (0,)], [(2,), (1,)], node=0)

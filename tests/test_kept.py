"""What an instance keeps: 1000000 at the most."""

from helper import OrderCase


def node(name, calls, pres):
    """A node that calls and that keeps something itself, so many times each."""
    parts = ["%s(x)" % called for called, times in calls for k in range(times)]
    parts += ["pre x"] * pres
    return "node %s(x: int) returns (y: int); let y = 0 -> %s; tel\n" % (name, " + ".join(parts + ["x"]))


TEN = node("a", [], 9)
THOUSAND = TEN + node("b", [("a", 99)], 9)


class Kept(OrderCase):
    def test_just_a_million_and_one_more(self):
        self.assert_right(THOUSAND + node("c", [("b", 999)], 999))
        self.assert_limit(THOUSAND + node("c", [("b", 999)], 1000))

    def test_a_million_and_one_by_a_call(self):
        one = "node one(x: int) returns (y: int); let y = x; tel\n"
        self.assert_right(one + THOUSAND + node("c", [("b", 999), ("one", 999)], 0))
        self.assert_limit(one + THOUSAND + node("c", [("b", 999), ("one", 1000)], 0))

    def test_fby(self):
        last = "node c(x: int) returns (y: int); let y = %s; tel"
        calls = " + ".join(["b(x)"] * 999)
        self.assert_right(THOUSAND + last % (calls + " + (x fby 1)" * 999))
        self.assert_limit(THOUSAND + last % (calls + " + (x fby 1)" * 1000))

    def test_values_behind_initial(self):
        two = "node two(x: int) returns (y, z: int); let y = x; z = x; tel\n"
        last = (
            "node c(x: int; p: bool) returns (y: int); var a, b: int;"
            " let (a, b) = activate two(x) every p initial (1, -2); y = %s; tel"
        )
        calls = " + ".join(["b(x)"] * 999)
        # Itself 1, the activated instance 1, its values 2.
        self.assert_right(two + THOUSAND + last % ("0 -> " + calls + " + pre x" * 996))
        self.assert_limit(two + THOUSAND + last % ("0 -> " + calls + " + pre x" * 997))

    def test_instances_that_are_reset_and_activated(self):
        for call in ("reset b(x) every p", "activate b(x) every p initial (1)"):
            last = "node c(x: int; p: bool) returns (y: int); let y = %s; tel"
            self.assert_right(THOUSAND + last % " + ".join([call] * 999))
            self.assert_limit(THOUSAND + last % " + ".join([call] * 1000))

    def test_of_one_of_the_nodes_whichever(self):
        much = THOUSAND + node("c", [("b", 1000)], 0)
        self.assert_limit(much)
        self.assert_limit(much + "node d(x: int) returns (y: int); let y = x; tel")

    def test_it_is_not_the_sum_of_the_nodes(self):
        self.assert_right(THOUSAND + node("c", [("b", 600)], 0) + node("d", [("b", 600)], 0))

    def test_broken_rules_come_before_it(self):
        text = THOUSAND + node("c", [("b", 1000)], 0)
        self.assert_rule(text + "node d(x: int) returns (y: int); let y = @w; tel")

    def test_it_comes_before_too_long(self):
        self.assert_refused(THOUSAND + node("c", [("b", 1000)], 0), -5, 0)
        self.assert_refused(THOUSAND + node("c", [("b", 999)], 0), -1, 0)

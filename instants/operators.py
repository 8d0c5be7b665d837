"""What the operators between two make of values; of truth values false is 0 and true is 1."""

# Numbers go from -HALF to HALF - 1, and are taken modulo WHOLE.
HALF = 2147483648
WHOLE = 4294967296


def added(left, right):
    return (left + right + HALF) % WHOLE - HALF


def subtracted(left, right):
    return (left - right + HALF) % WHOLE - HALF


def multiplied(left, right):
    return (left * right + HALF) % WHOLE - HALF


# Towards 0; the one that passes the greatest number is that of the least and -1.
def divided(left, right):
    if right == 0:
        return 0
    size = abs(left) // abs(right)
    if (left < 0) != (right < 0):
        return 0 - size
    return size if size < HALF else 0 - HALF


def left_over(left, right):
    if right == 0:
        return 0
    size = abs(left) % abs(right)
    return size if left >= 0 else 0 - size


def equal(left, right):
    return 1 if left == right else 0


def different(left, right):
    return 1 if left != right else 0


def less(left, right):
    return 1 if left < right else 0


def at_most(left, right):
    return 1 if left <= right else 0


def more(left, right):
    return 1 if left > right else 0


def at_least(left, right):
    return 1 if left >= right else 0


def both(left, right):
    return left & right


def either(left, right):
    return left | right


WORKS = {
    "+": added, "-": subtracted, "*": multiplied, "/": divided, "mod": left_over,
    "=": equal, "<>": different, "<": less, "<=": at_most, ">": more, ">=": at_least,
    "and": both, "or": either, "xor": different, "=>": at_most,
}


def work_of(what):
    return WORKS[what]

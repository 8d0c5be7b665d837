"""The sixth rule: what has a value at the first instant."""

from instants.parts import taken_off


# Whether a part is begun, by whether the parts are that it's made of.
def is_begun(part, given):
    if part.what == "pre":
        return False
    if part.what == "->":
        return given[0]
    return all(given)


def is_wrong(part, given):
    if part.what == "->":
        return not given[0]
    return part.what in ("pre", "fby", "call") and not all(given)


def wrong_beginnings(node):
    wrong = []
    for equation in node.equations:
        stack = []
        for part in equation.code:
            given = taken_off(stack, part.size)
            if is_wrong(part, given):
                wrong.append(part.place)
            stack.append(is_begun(part, given))
        if not stack[0]:
            wrong.append(equation.place)
    return wrong

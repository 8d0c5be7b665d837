"""The fifth rule: int or bool, of what's made of right parts alone."""

from instants.parts import declared_names, taken_off

# What each operator is given and what it makes.
FROM_TO = {
    "+": ("int", "int"), "-": ("int", "int"), "*": ("int", "int"), "/": ("int", "int"), "mod": ("int", "int"),
    "negate": ("int", "int"),
    "<": ("int", "bool"), "<=": ("int", "bool"), ">": ("int", "bool"), ">=": ("int", "bool"),
    "not": ("bool", "bool"), "and": ("bool", "bool"), "or": ("bool", "bool"), "xor": ("bool", "bool"),
    "=>": ("bool", "bool"),
}
CONSTANTS = {"number": "int", "true": "bool", "false": "bool"}


# As in the functions below: the kinds of what a part makes, or None where it's wrong.
def kinds_by_operator(what, given):
    if what in FROM_TO:
        if any([kind != FROM_TO[what][0] for kind in given]):
            return None
        return [FROM_TO[what][1]]
    if what == "pre":
        return given
    if what == "if" and given[0] != "bool":
        return None
    if given[-1] != given[-2]:
        return None
    return ["bool"] if what in ("=", "<>") else [given[-1]]


def kinds_by_call(call, given, node, alone):
    outputs = [output.kind for output in node.outputs]
    needed = [needs.kind for needs in node.inputs]
    if call.way != "":
        needed.append("bool")
    if given != needed:
        return None
    if call.way == "activate" and [first.kind for first in call.firsts] != outputs:
        return None
    if len(outputs) != 1 and not alone:
        return None
    return outputs


# No kinds at all stand for what is wrong, or is made of something wrong.
def kinds_of_part(part, given, alone, declared, known):
    if part.what in CONSTANTS:
        return [CONSTANTS[part.what]]
    if part.what == "name":
        return [declared[part.worth]] if part.worth in declared else []
    if any([len(kinds) == 0 for kinds in given]):
        return []
    single = [kinds[0] for kinds in given]
    if part.what != "call":
        return kinds_by_operator(part.what, single)
    if part.worth.name not in known:
        return []
    return kinds_by_call(part.worth, single, known[part.worth.name], alone)


def kinds_of_code(code, declared, known, wrong):
    stack = []
    for k, part in enumerate(code):
        alone = k == len(code) - 1
        kinds = kinds_of_part(part, taken_off(stack, part.size), alone, declared, known)
        if kinds is None:
            wrong.append(part.place)
            kinds = []
        stack.append(kinds)
    return stack[0]


def wrong_kinds(node, known):
    declared = {}
    for name in declared_names(node):
        declared[name.name] = name.kind
    wrong = []
    for equation in node.equations:
        right = kinds_of_code(equation.code, declared, known, wrong)
        left = [declared.get(token.text, "") for token in equation.lefts]
        if len(right) > 0 and left != right:
            wrong.append(equation.place)
    return wrong

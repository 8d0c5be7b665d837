"""Running a node: what it's given, held to the node's inputs, and its outputs, instant by instant."""

from instants.refusals import WrongGiven


def hold_given(node, steps, given):
    width = len(node.inputs)
    if len(given) != steps * width:
        raise WrongGiven()
    for k, name in enumerate(node.inputs):
        if name.kind == "bool" and any([number not in (0, 1) for number in given[k::width]]):
            raise WrongGiven()


def run_program(program, steps, given):
    kept = [0] * program.room
    kept[0] = 1
    cells = program.cells
    answer = []
    for k in range(steps):
        start = k * program.width
        cells[program.own:program.own + program.width] = given[start:start + program.width]
        program.go_on(kept, 0)
        answer.extend([cells[cell] for cell in program.outputs])
    return answer

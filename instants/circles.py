"""What depends on what: the seventh rule, and the order in which equations can be worked out."""


# The names that must have their values before this can be worked out: not those behind pre or
# on the right of fby. Backwards every part comes ahead of those that it's made of, the last first.
def names_needed(code):
    needed = {}
    delayed = [False]
    for part in reversed(code):
        late = delayed.pop()
        if part.what == "name" and not late:
            needed[part.worth] = True
        for k in range(part.size):
            delayed.append(late or part.what == "pre" or (part.what == "fby" and k == 1))
    return needed


def equations_by_name(node):
    found = {}
    for k, equation in enumerate(node.equations):
        for token in equation.lefts:
            found.setdefault(token.text, []).append(k)
    return found


# Names stand as steps of their own between the equations: a name in many equations on the left
# and in many on the right would else make as many links as both multiplied.
def links_of(node):
    by_name = equations_by_name(node)
    number = {}
    for name in by_name:
        number[name] = len(node.equations) + len(number)
    links = []
    for equation in node.equations:
        links.append([number[name] for name in names_needed(equation.code) if name in number])
    for name in by_name:
        links.append(by_name[name])
    return links


def turned_round(links):
    turned = [[] for link in links]
    for k, ends in enumerate(links):
        for end in ends:
            turned[end].append(k)
    return turned


# Every step behind all that is reached from it, but for circles.
def ended_order(links):
    seen = [False for link in links]
    tried = [0 for link in links]
    ended = []
    for start in range(len(links)):
        path = [] if seen[start] else [start]
        seen[start] = True
        while len(path) > 0:
            ends = links[path[-1]]
            k = tried[path[-1]]
            if k == len(ends):
                ended.append(path.pop())
            else:
                tried[path[-1]] = k + 1
                if not seen[ends[k]]:
                    seen[ends[k]] = True
                    path.append(ends[k])
    return ended


# Steps get the same number where each is reached from the other.
def circle_numbers(links):
    back = turned_round(links)
    numbers = [-1 for link in links]
    for start in reversed(ended_order(links)):
        waiting = [start] if numbers[start] < 0 else []
        while len(waiting) > 0:
            step = waiting.pop()
            numbers[step] = start
            waiting.extend([other for other in back[step] if numbers[other] < 0])
    return numbers


def wrong_circles(node):
    links = links_of(node)
    numbers = circle_numbers(links)
    wrong = []
    for k, equation in enumerate(node.equations):
        if any([numbers[end] == numbers[k] for end in links[k]]):
            wrong.append(equation.lefts[0].place)
    return wrong


def first_ready(needed, done):
    for k, others in enumerate(needed):
        if not done[k] and all([done[other] for other in others]):
            return k


# Of a node without circles: always the first that's left of those that depend on none that's left.
def working_order(node):
    by_name = equations_by_name(node)
    needed = []
    for equation in node.equations:
        needed.append([by_name[name][0] for name in names_needed(equation.code) if name in by_name])
    done = [False for equation in node.equations]
    order = []
    while len(order) < len(done):
        ready = first_ready(needed, done)
        done[ready] = True
        order.append(ready)
    return order

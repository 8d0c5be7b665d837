"""What depends on what: the seventh rule, and the order in which equations can be worked out."""


# The names that must have their values before this can be worked out: not those behind pre or
# on the right of fby. Backwards every part comes ahead of those that it's made of, the last first.
def names_needed(code):
    needed = {}
    delayed = [False]
    for part in reversed(code):
        late = delayed.pop()
        if part.what == "name" and not late:
            needed[part.worth] = True
        for k in range(part.size):
            delayed.append(late or part.what == "pre" or (part.what == "fby" and k == 1))
    return needed


# A name has one equation, the first with it on the left: a later one is wrong there and tells nothing of its value.
def equations_by_name(node):
    found = {}
    for k, equation in enumerate(node.equations):
        for token in equation.lefts:
            found.setdefault(token.text, k)
    return found


# For each equation those of the names that it needs.
def links_of(node):
    by_name = equations_by_name(node)
    links = []
    for equation in node.equations:
        links.append([by_name[name] for name in names_needed(equation.code) if name in by_name])
    return links


def turned_round(links):
    turned = [[] for link in links]
    for k, ends in enumerate(links):
        for end in ends:
            turned[end].append(k)
    return turned


# Every equation behind all that is reached from it, but for circles.
def ended_order(links):
    seen = [False for link in links]
    tried = [0 for link in links]
    ended = []
    for start in range(len(links)):
        path = [] if seen[start] else [start]
        seen[start] = True
        while len(path) > 0:
            ends = links[path[-1]]
            k = tried[path[-1]]
            if k == len(ends):
                ended.append(path.pop())
            else:
                tried[path[-1]] = k + 1
                if not seen[ends[k]]:
                    seen[ends[k]] = True
                    path.append(ends[k])
    return ended


# Equations get the same number where each is reached from the other.
def circle_numbers(links):
    back = turned_round(links)
    numbers = [-1 for link in links]
    for start in reversed(ended_order(links)):
        waiting = [start] if numbers[start] < 0 else []
        while len(waiting) > 0:
            reached = waiting.pop()
            numbers[reached] = start
            waiting.extend([other for other in back[reached] if numbers[other] < 0])
    return numbers


def wrong_circles(node):
    links = links_of(node)
    numbers = circle_numbers(links)
    wrong = []
    for k, equation in enumerate(node.equations):
        if any([numbers[end] == numbers[k] for end in links[k]]):
            wrong.append(equation.lefts[0].place)
    return wrong


def first_ready(needed, done):
    for k, others in enumerate(needed):
        if not done[k] and all([done[other] for other in others]):
            return k


# Of a node without circles: always the first that's left of those that depend on none that's left.
def working_order(node):
    needed = links_of(node)
    done = [False for equation in node.equations]
    order = []
    while len(order) < len(done):
        ready = first_ready(needed, done)
        done[ready] = True
        order.append(ready)
    return order

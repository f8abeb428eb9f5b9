"""Points [25] to [33] a second time, as plainly as the document tells them, to compare with the program."""

from nobodyspeaks.steps import answered, begin, outcomes, step


def first(frame, ground):
    return (frame, ground, frame, ground, (), False)


def first_of(system, task, ground):
    return first(begin(system, *task), ground)


def hit_by(use, target):
    tool, allowed = use[0], use[6]
    return allowed is True and tool == target[0] and target[1] in (None, use[1])


def at_its_end(system, line):
    name = system.told()[5][line[2][0]][0]
    return system.code(name)[line[2][1]][0] in ("return", "end")


def following(system, target, silent, line, lines):
    entry, start, frame, ground, posted, done = line
    found = []
    for outcome in range(outcomes(system, frame, silent)):
        told = step(system, frame, ground, outcome)
        if told[0] == "goes":
            done_then = done or (told[4] is not None and hit_by(told[4], target))
            found.append((entry, start, told[1], told[2], posted + tuple(told[3]), done_then))
        if told[0] == "calls":
            found.append(first(told[2], ground))
            for other in lines:
                if other[:2] == (told[2], ground) and at_its_end(system, other):
                    _, answer, mark = step(system, other[2], other[3], 0)
                    behind = answered(system, frame, answer, mark)
                    found.append((entry, start, behind, other[3], posted + other[4], done or other[5]))
    return found


def too_much(lines):
    return len(lines) > 90 or max([len(line[4]) for line in lines], default=0) > 12


def closed(system, target, silent, lines):
    lines = list(lines)
    while True:
        if too_much(lines):
            return None
        began = list(lines)
        for line in began:
            for other in following(system, target, silent, line, began):
                if other not in lines:
                    lines.append(other)
        if lines == began:
            return lines


def put(node, task):
    ground, tasks = node
    tasks = [list(pair) for pair in tasks]
    for pair in tasks:
        if pair[0] == task:
            pair[1] = None if pair[1] is None else pair[1] + 1
            break
    else:
        tasks.append([task, 1])
    return (ground, tuple(tuple(pair) for pair in tasks))


def taken_off(node, task):
    ground, tasks = node
    found = []
    for other, many in tasks:
        if other != task or many is None:
            found.append((other, many))
        elif many > 1:
            found.append((other, many - 1))
    return (ground, tuple(found))


def node_of(ground, tasks):
    node = (ground, ())
    for task in tasks:
        node = put(node, task)
    return node


def is_as_often(many, other):
    """True if other is as often as many."""
    return other is None or (many is not None and other >= many)


def within(one, two):
    return one[0] == two[0] and all(
        any(other == task and is_as_often(many, more) for other, more in two[1]) for task, many in one[1]
    )


def following_nodes(system, lines, node):
    ground, tasks = node
    cells, policy, counts = ground
    found = []
    if policy + 1 < system.told()[6]:
        found.append(((cells, policy + 1, counts), tasks))
    for task, _ in tasks:
        for line in lines:
            if line[0] == begin(system, *task) and line[1] == ground and at_its_end(system, line):
                behind = (line[3], taken_off(node, task)[1])
                for other in line[4]:
                    behind = put(behind, other)
                found.append(behind)
    return found


def judged(system, ground, waiting, target, silent, paper):
    """As judge_never, for papers that fit."""
    lines, nodes = paper
    for line in lines:
        if line[5] or any(other not in lines for other in following(system, target, silent, line, lines)):
            return False
    if not any(within(node_of(ground, waiting), node) for node in nodes):
        return False
    for node in nodes:
        if any(first_of(system, task, node[0]) not in lines for task, _ in node[1]):
            return False
        for other in following_nodes(system, lines, node):
            if not any(within(other, one) for one in nodes):
                return False
    return True


def cover(system, ground, waiting, target, silent):
    lines, nodes, ahead = [], [node_of(ground, waiting)], {}
    at = 0
    while at < len(nodes):
        for task, _ in nodes[at][1]:
            line = first_of(system, task, nodes[at][0])
            if line not in lines:
                lines.append(line)
        lines = closed(system, target, silent, lines)
        if lines is None or any(line[5] for line in lines):
            return None
        for node in following_nodes(system, lines, nodes[at]):
            number = at
            while number is not None:
                node = quickened(node, nodes[number])
                number = ahead.get(number)
            if not any(within(node, other) for other in nodes):
                ahead[len(nodes)] = at
                nodes.append(node)
        if len(nodes) > 30:
            return None
        at += 1
    return (lines, nodes)


def quickened(node, older):
    if not within(older, node):
        return node
    often = dict(older[1])
    tasks = []
    for task, many in node[1]:
        tasks.append((task, many if is_as_often(many, often.get(task, 0)) else None))
    return (node[0], tuple(tasks))


def is_found(system, ground, waiting, target, silent, most=30):
    """True if the search of [33] finds a run; at most so many rests."""
    rests = [(ground, list(waiting))]
    nodes = [node_of(ground, waiting)]
    for ground, waiting in rests:
        ended = []
        for at, task in enumerate(waiting):
            lines = closed(system, target, silent, [first_of(system, task, ground)])
            if lines is None:
                return False
            if any(line[5] for line in lines):
                return True
            ended += [
                (line[3], waiting[:at] + waiting[at + 1:] + list(line[4])) for line in lines
                if line[:2] == lines[0][:2] and at_its_end(system, line)
            ]
        cells, policy, counts = ground
        if policy + 1 < system.told()[6]:
            ended.insert(0, ((cells, policy + 1, counts), waiting))
        for rest in ended:
            node = node_of(*rest)
            if not any(within(node, other) for other in nodes):
                rests.append(rest)
                nodes.append(node)
        if len(rests) > most:
            return False
    return False


def can(host, target, silent):
    """What can tells, but for the run: ("yes",), ("no", paper) or ("open",)."""
    row = (host.system, host.ground(), host.waiting(), target, silent)
    if is_found(*row):
        return ("yes",)
    paper = cover(*row)
    return ("open",) if paper is None else ("no", paper)

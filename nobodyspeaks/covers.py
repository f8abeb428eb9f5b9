"""Nodes, covers made of them, and the judge of never.

A node is a tuple (ground, tasks) with pairs (task, many); a paper is a tuple (lines, nodes) of lists.
"""

from nobodyspeaks.errors import Busy
from nobodyspeaks.fitting import paper_fits
from nobodyspeaks.lines import close, endings, follow, line_of_task

MOST_NODES = 30


def node_of(ground, tasks):
    """The node of this ground on which just these tasks wait."""
    node = ground, ()
    for task in tasks:
        node = _put(node, task)
    return node


def lies_within(one, two):
    """True if the grounds are equal and each task of the first node is in the second one at least as often."""
    if one[0] != two[0]:
        return False
    most = {task: many for task, many in two[1]}
    return all([task in most and not _is_fewer(most[task], many) for task, many in one[1]])


def follow_node(system, lines, node):
    """The list of the nodes that follow the node among these lines."""
    (cells, policy, counts), tasks = node
    found = []
    if policy + 1 < len(system.policies):
        found.append(((cells, policy + 1, counts), tasks))
    for task, _ in tasks:
        entry, start, _, _, _, _ = line_of_task(system, task, node[0])
        for ending in endings(system, lines, entry, start):
            found.append(_behind(node, task, ending))
    return found


def _is_fewer(many, other):
    """True if a task that waits the first number of times waits less often than the second one; None is any."""
    if many is None:
        return False
    return other is None or many < other


def _put(node, task):
    """The node with the task put to it."""
    ground, tasks = node
    if task not in [one for one, _ in tasks]:
        return ground, (*tasks, (task, 1))
    return ground, _with_more(tasks, task, 1)


def _taken_off(node, task):
    """The node with the task taken off it."""
    ground, tasks = node
    return ground, tuple([pair for pair in _with_more(tasks, task, -1) if pair[1] != 0])


def _with_more(tasks, task, more):
    """The pairs with so many more at the pair of the task; any number of times stays so."""
    return tuple([(one, many + more if one == task and many is not None else many) for one, many in tasks])


def _behind(node, task, ending):
    """The node behind this line of the task, which has ended."""
    _, tasks = _taken_off(node, task)
    found = ending[3], tasks
    for posted in ending[4]:
        found = _put(found, posted)
    return found


def judge_never(host, target, silent, paper):
    """True if the paper shows that no run from the host hits the target; Busy if the host is not at rest."""
    if not host.at_rest():
        raise Busy("papers are judged at rest")
    system = host.system
    lines, nodes = paper
    return (
        paper_fits(system, paper)
        and _are_closed(system, target, silent, lines)
        and not any([line[5] for line in lines])
        and _lies_among(node_of(host.ground(), host.waiting()), nodes)
        and all([_begins_among(system, node, lines) for node in nodes])
        and all([_goes_on_among(system, lines, node, nodes) for node in nodes])
    )


def _are_closed(system, target, silent, lines):
    """True if all that follows one of the lines among them is among them."""
    known = {line: True for line in lines}
    for line in lines:
        if not all([other in known for other in follow(system, target, silent, line, lines)]):
            return False
    return True


def _lies_among(node, nodes):
    """True if the node lies within one of the nodes."""
    return any([lies_within(node, other) for other in nodes])


def _begins_among(system, node, lines):
    """True if the line of each task's frame that begins, on the node's ground, is among the lines."""
    ground, tasks = node
    return all([line_of_task(system, task, ground) in lines for task, _ in tasks])


def _goes_on_among(system, lines, node, nodes):
    """True if each node that follows the node lies within one of the nodes."""
    return all([_lies_among(other, nodes) for other in follow_node(system, lines, node)])


def make_cover(host, target, silent):
    """A paper that judge_never takes, or None; Busy if the host is not at rest."""
    if not host.at_rest():
        raise Busy("covers are made at rest")
    system = host.system
    lines = []
    nodes = [node_of(host.ground(), host.waiting())]
    # By the number of each node, the number of the node of which it was made; the first was made of none.
    makers = [None]
    at = 0
    while at < len(nodes):
        lines = _closed_with(system, target, silent, lines, nodes[at])
        if lines is None or any([line[5] for line in lines]):
            return None
        for node in follow_node(system, lines, nodes[at]):
            quick = _quickened(node, _nodes_up_to_first(nodes, makers, at))
            if not _lies_among(quick, nodes):
                nodes.append(quick)
                makers.append(at)
            if len(nodes) > MOST_NODES:
                return None
        at += 1
    return lines, nodes


def _closed_with(system, target, silent, lines, node):
    """The lines, closed, with those of the node's tasks behind them; None as close tells it."""
    ground, tasks = node
    begun = [line_of_task(system, task, ground) for task, _ in tasks]
    # Different tasks may begin alike, and are then one line.
    for line in begun:
        if line not in lines:
            lines = [*lines, line]
    return close(system, target, silent, lines)


def _nodes_up_to_first(nodes, makers, at):
    """The node of this number, the node of which it was made, and so on to the first."""
    found = []
    while at is not None:
        found.append(nodes[at])
        at = makers[at]
    return found


def _quickened(node, older):
    """The node with any number of a task, where one of the older nodes lies within it and has fewer of the task."""
    for other in older:
        if lies_within(other, node):
            ground, tasks = node
            ahead = {task: many for task, many in other[1]}
            node = ground, tuple([(task, _any_if_fewer(ahead.get(task, 0), many)) for task, many in tasks])
    return node


def _any_if_fewer(many, other):
    """The second number of times, or any number of times if the first one is fewer."""
    return None if _is_fewer(many, other) else other

"""Whether papers fit a system: whether there is all that they tell by numbers."""

from nobodyspeaks.parts import TEXT

TEXT_CONTENTS = 2


def paper_fits(system, paper):
    """True if the lines and the nodes of the paper tell nothing that the system does not have."""
    lines, nodes = paper
    return all([_line_fits(system, line) for line in lines]) and all([_node_fits(system, node) for node in nodes])


def _line_fits(system, line):
    entry, start, frame, ground, posted, _ = line
    if not _frame_fits(system, entry) or not _frame_fits(system, frame):
        return False
    if not _ground_fits(system, start) or not _ground_fits(system, ground):
        return False
    return all([_task_fits(system, task) for task in posted])


def _node_fits(system, node):
    """As told, but for a node in which a task has two pairs or waits less than once: that is none at all."""
    ground, tasks = node
    if not _ground_fits(system, ground) or not all([_task_fits(system, task) for task, _ in tasks]):
        return False
    return len({task for task, _ in tasks}) == len(tasks) and all([many is None or many > 0 for _, many in tasks])


def _frame_fits(system, frame):
    procedure, place, values, mark = frame
    if not 0 <= procedure < len(system.bodies) or not 0 <= place < len(system.instructions[procedure]):
        return False
    kinds = [kind for _, kind in system.bodies[procedure].variables]
    return _values_fit(system, values, kinds) and _mark_fits(system, mark)


def _task_fits(system, task):
    procedure, arguments, mark = task
    if not 0 <= procedure < len(system.bodies):
        return False
    kinds = [kind for _, kind in system.parts.procedures[procedure].parameters]
    return _values_fit(system, arguments, kinds) and _mark_fits(system, mark)


def _ground_fits(system, ground):
    cells, policy, counts = ground
    # Without policies the policy in force is 0 nevertheless.
    if not 0 <= policy < max(1, len(system.policies)):
        return False
    if [len(row) for row in counts] != [len(rules) for rules in system.policies]:
        return False
    return _values_fit(system, cells, list(system.parts.cells.values()))


def _values_fit(system, values, kinds):
    if len(values) != len(kinds):
        return False
    return all([_value_fits(system, value, kind) for value, kind in zip(values, kinds)])


def _value_fits(system, value, kind):
    content, mark = value
    contents = TEXT_CONTENTS if kind == TEXT else len(system.parts.domains[kind])
    return 0 <= content < contents and _mark_fits(system, mark)


def _mark_fits(system, mark):
    return 0 <= mark < 1 << len(system.parts.channels)

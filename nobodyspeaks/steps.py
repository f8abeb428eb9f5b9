"""Frames of procedures that run, and their steps.

A value is a tuple (content, mark), a frame a tuple (procedure, place, values, mark), a ground a tuple (cells, policy,
counts), a task a tuple (procedure, arguments, mark).
"""

from nobodyspeaks.errors import BadValue
from nobodyspeaks.marks import join, within
from nobodyspeaks.parts import TEXT
from nobodyspeaks.policies import decide, names_words


def begin(system, procedure, arguments, mark):
    """The frame of the procedure of this number that begins with these arguments and this own mark."""
    others = len(system.bodies[procedure].variables) - len(arguments)
    values = [*_joined(arguments, mark), *[(0, mark) for _ in range(others)]]
    return procedure, 0, tuple(values), mark


def outcomes(system, frame, silent):
    """How many outcomes the step at the frame's place has, in a world that is silent or one that is not."""
    procedure, place, values, _ = frame
    instruction = system.instructions[procedure][place]
    word = instruction[0]
    if word == "read":
        return 1 if silent else 2
    if word in ("take", "trust") and values[instruction[2]][0] == 0:
        return 1
    if word in ("choose", "take", "trust"):
        _, kind = system.bodies[procedure].variables[instruction[1]]
        return len(system.parts.domains[kind])
    return 1


def step(system, frame, ground, outcome):
    """What the step at the frame's place comes to with this outcome: a tuple by its first member.

    ("goes", frame, ground, posted, use), ("calls", frame that waits, frame that begins), ("ends", answer, own mark).
    """
    if not 0 <= outcome < outcomes(system, frame, False):
        raise BadValue(f"the step has no outcome {outcome}")
    instruction = system.instructions[frame[0]][frame[1]]
    word = instruction[0]
    if word in SETTINGS:
        setting = SETTINGS[word]
        content, mark = setting(instruction, frame[2], ground[0], outcome)
        return _goes(_set_behind(frame, instruction[1], content, mark), ground)
    action = ACTIONS[word]
    return action(system, frame, ground, instruction)


def answered(system, frame, answer, mark):
    """The frame that waited at a call, behind the answer of a frame with this own mark."""
    procedure, place, values, own = frame
    x = system.instructions[procedure][place][1]
    content, answer_mark = answer
    return _set_behind((procedure, place, values, join(own, mark)), x, content, join(answer_mark, mark))


def _joined(values, mark):
    """The values, each mark joined with this one."""
    return [(content, join(one, mark)) for content, one in values]


def _mark_of(values):
    """The mark that joins those of the values."""
    found = 0
    for _, mark in values:
        found = join(found, mark)
    return found


def _at(frame, place):
    procedure, _, values, own = frame
    return procedure, place, values, own


def _behind(frame):
    return _at(frame, frame[1] + 1)


def _set_behind(frame, variable, content, mark):
    """The frame at its next place, with the variable set to this content and mark."""
    procedure, place, values, own = frame
    row = list(values)
    row[variable] = (content, join(mark, own))
    return procedure, place + 1, tuple(row), own


def _goes(frame, ground):
    return "goes", frame, ground, [], None


def _chosen(values, variables):
    return [values[variable] for variable in variables]


def _replaced(row, at, member):
    """The tuple with this member in the place of the one that it has there."""
    return (*row[:at], member, *row[at + 1:])


# A setting tells the content and the mark that its variable is set to, ahead of joining the frame's own mark.


def _read(instruction, values, cells, outcome):
    return outcome, 1 << instruction[2]


def _choose(instruction, values, cells, outcome):
    return outcome, _mark_of(_chosen(values, instruction[2]))


def _write(instruction, values, cells, outcome):
    return 1, _mark_of(_chosen(values, instruction[2]))


def _take(instruction, values, cells, outcome):
    return outcome, values[instruction[2]][1]


def _trust(instruction, values, cells, outcome):
    return outcome, 0


def _set(instruction, values, cells, outcome):
    return instruction[2], 0


def _copy(instruction, values, cells, outcome):
    return values[instruction[2]]


def _recall(instruction, values, cells, outcome):
    return cells[instruction[2]]


SETTINGS = {
    "read": _read,
    "choose": _choose,
    "write": _write,
    "take": _take,
    "trust": _trust,
    "set": _set,
    "copy": _copy,
    "recall": _recall,
}


# An action tells what the whole step comes to.


def _keep(system, frame, ground, instruction):
    _, cell, x = instruction
    cells, policy, counts = ground
    own = frame[3]
    content, mark = frame[2][x]
    kept = cells[cell][1]
    if own == 0:
        cells = _replaced(cells, cell, (content, mark))
    elif within(own, kept):
        cells = _replaced(cells, cell, (content, join(join(mark, own), kept)))
    return _goes(_behind(frame), (cells, policy, counts))


def _branch(system, frame, ground, instruction):
    _, x, word, other = instruction
    procedure, place, values, own = frame
    content, mark = values[x]
    return _goes((procedure, place + 1 if content == word else other, values, join(own, mark)), ground)


def _jump(system, frame, ground, instruction):
    return _goes(_at(frame, instruction[1]), ground)


def _call(system, frame, ground, instruction):
    _, _, function, variables = instruction
    return "calls", frame, begin(system, function, _chosen(frame[2], variables), frame[3])


def _post(system, frame, ground, instruction):
    _, task, variables = instruction
    own = frame[3]
    arguments = _joined(_chosen(frame[2], variables), own)
    return "goes", _behind(frame), ground, [(task, tuple(arguments), own)], None


def _ask(system, frame, ground, instruction):
    _, person, task, variables = instruction
    arguments = _chosen(frame[2], variables)
    posted = []
    if _says_yes(system, person, task, [content for content, _ in arguments]):
        kinds = [kind for _, kind in system.parts.procedures[task].parameters]
        # What a person has read and agreed to is a stranger's no more, but nobody reads a text that closely.
        heard = [value if kind == TEXT else (value[0], 0) for value, kind in zip(arguments, kinds)]
        posted = [(task, tuple(heard), 0)]
    return "goes", _behind(frame), ground, posted, None


def _says_yes(system, person, task, contents):
    for one, other, pattern in system.yes_lines:
        if (one, other) == (person, task) and names_words(pattern, contents):
            return True
    return False


def _do(system, frame, ground, instruction):
    _, tool, variables, _ = instruction
    cells, policy, counts = ground
    chosen = _chosen(frame[2], variables)
    words = tuple([content for content, _ in chosen])
    mark = join(_mark_of(chosen), frame[3])
    ahead = counts[policy] if policy < len(counts) else ()
    rule, allowed = decide(system, policy, ahead, tool, words, mark)
    if rule is not None and system.policies[policy][rule].limit is not None:
        counts = _replaced(counts, policy, _replaced(ahead, rule, ahead[rule] + 1))
    use = (tool, words, mark, policy, rule, ahead, allowed)
    return "goes", _behind(frame), (cells, policy, counts), [], use


def _return(system, frame, ground, instruction):
    content, mark = frame[2][instruction[1]]
    return "ends", (content, join(mark, frame[3])), frame[3]


def _end(system, frame, ground, instruction):
    return "ends", (0, frame[3]), frame[3]


ACTIONS = {
    "keep": _keep,
    "branch": _branch,
    "jump": _jump,
    "call": _call,
    "post": _post,
    "ask": _ask,
    "do": _do,
    "return": _return,
    "end": _end,
}

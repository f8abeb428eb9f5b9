"""Lines: what frames that begin on a ground come to, step by step.

A line is a tuple (entry, start, frame, ground, posted, done): from the frame `entry` on the ground `start` the frame
`frame` on the ground `ground` is come to. A way tells how a line came to be among the lines: ("goes", line ahead,
outcome), ("begins", line that calls), ("answers", line that calls, line that answers), or None if it was handed in.
"""

from nobodyspeaks.steps import answered, begin, outcomes, step

MOST_LINES = 90
MOST_POSTED = 12


def first_line(frame, ground):
    """The line of a frame that begins on this ground."""
    return frame, ground, frame, ground, (), False


def line_of_task(system, task, ground):
    """The line of the task's frame that begins on this ground."""
    procedure, arguments, mark = task
    return first_line(begin(system, procedure, arguments, mark), ground)


def hits(use, target):
    """True if the use, with a point behind it or without, hits the target (tool, words)."""
    tool, words = target
    return use[6] and use[0] == tool and (words is None or use[1] == words)


def is_ended(system, line):
    """True if the line's frame is at a return or an end."""
    return _word_at(system, line) in ("return", "end")


def endings(system, lines, entry, start):
    """Those of the lines that begin with this frame on this ground and have ended."""
    return [line for line in lines if line[0] == entry and line[1] == start and is_ended(system, line)]


def follow(system, target, silent, line, lines):
    """The list of the lines that follow the line among these lines, outcome by outcome."""
    return [other for other, _ in _following(system, target, silent, line, lines)]


def close(system, target, silent, lines):
    """The list of the lines with all that follows them behind them; None if they become too many or post too much."""
    closed, _ = close_by_ways(system, target, silent, lines)
    return closed


def close_by_ways(system, target, silent, lines):
    """The tuple (closed lines or None, dict of the way of each line)."""
    closed = list(lines)
    ways = {line: None for line in lines}
    settled = 0
    while not _are_too_much(closed):
        known = list(closed)
        for at, line in enumerate(known):
            # What follows a call depends on the other lines; what follows any other line is there after one round.
            if at < settled and _word_at(system, line) != "call":
                continue
            for other, way in _following(system, target, silent, line, known):
                if other not in ways:
                    ways[other] = way
                    closed.append(other)
        settled = len(known)
        if len(closed) == settled:
            return closed, ways
    return None, ways


def _are_too_much(lines):
    return len(lines) > MOST_LINES or any([len(line[4]) > MOST_POSTED for line in lines])


def _word_at(system, line):
    """The word of the instruction that the line's frame has come to."""
    procedure, place, _, _ = line[2]
    return system.instructions[procedure][place][0]


def _following(system, target, silent, line, lines):
    """The tuples (line, way) of what follows the line among these lines."""
    entry, start, frame, ground, posted, done = line
    found = []
    for outcome in range(outcomes(system, frame, silent)):
        told = step(system, frame, ground, outcome)
        if told[0] == "goes":
            _, behind, then, more, use = told
            hit = done or (use is not None and hits(use, target))
            found.append(((entry, start, behind, then, (*posted, *more), hit), ("goes", line, outcome)))
        elif told[0] == "calls":
            found.append((first_line(told[2], ground), ("begins", line)))
            for ending in endings(system, lines, told[2], ground):
                found.append((_answered(system, line, ending), ("answers", line, ending)))
    return found


def _answered(system, line, ending):
    """The line that calls, behind the answer of a line that has ended."""
    entry, start, frame, _, posted, done = line
    _, _, ended, ground, more, also_done = ending
    _, answer, mark = step(system, ended, ground, 0)
    behind = answered(system, frame, answer, mark)
    return entry, start, behind, ground, (*posted, *more), done or also_done

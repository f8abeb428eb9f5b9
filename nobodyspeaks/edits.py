"""Edits: texts that give procedures of a system other bodies."""

from nobodyspeaks.bodies import read_body
from nobodyspeaks.systems import System
from nobodyspeaks.words import Words

MOST_BODIES = 3


def edited(system, text):
    """The system with the bodies of this edit in the place of the old ones; Misfit if the edit does not fit it."""
    given = _read_edit(system, text)
    bodies = [given.get(number, body) for number, body in enumerate(system.bodies)]
    return System(system.parts, bodies, system.yes_lines, system.policies, system.starts)


def touches(system, text, paper):
    """True if something in the paper is of a procedure whose body the edit gives; Misfit if it does not fit."""
    given = _read_edit(system, text)
    return any([procedure in given for procedure in _procedures_of(paper)])


def _read_edit(system, text):
    """The bodies that the edit gives, by the numbers of their procedures."""
    words = Words(text)
    words.need("edit")
    names = system.parts.procedure_names()
    found = {}
    while len(found) < MOST_BODIES and words.here() == "body":
        words.need("body")
        number = names.index(words.pick([name for at, name in enumerate(names) if at not in found]))
        found[number] = read_body(words, system.parts, system.parts.procedures[number])
    words.need("end")
    words.finish()
    return found


def _procedures_of(paper):
    """The numbers of the procedures of the frames and tasks that a paper tells."""
    lines, nodes = paper
    found = []
    for entry, _, frame, _, posted, _ in lines:
        found.extend([entry[0], frame[0], *[task[0] for task in posted]])
    for _, tasks in nodes:
        found.extend([task[0] for task, _ in tasks])
    return found

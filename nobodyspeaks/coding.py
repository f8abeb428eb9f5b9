"""Turning the statements of bodies into instructions."""


def instructions_of(statements):
    """The list of the instructions of a body with these statements."""
    return [*_instructions(statements, 0), ("end",)]


def _instructions(statements, place):
    """The instructions of statements of which the first one begins at this place."""
    found = []
    for statement in statements:
        if statement[0] == "if":
            found.extend(_instructions_of_if(statement, place + len(found)))
        else:
            found.append(statement)
    return found


def _instructions_of_if(statement, place):
    _, x, word, first, second = statement
    chosen = _instructions(first, place + 1)
    behind = place + len(chosen) + 2
    others = _instructions(second, behind)
    return [("branch", x, word, behind), *chosen, ("jump", behind + len(others)), *others]

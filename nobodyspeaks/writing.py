"""Writing the texts of systems, part by part, as lists of words."""

from nobodyspeaks.marks import channels_of

# What stands behind the first word of a statement: what its instruction tells in this order, and words of its own.
MEMBERS = {
    "read": ("variable", "channel"),
    "choose": ("variable", "from", "variables", "end"),
    "write": ("variable", "from", "variables", "end"),
    "take": ("variable", "variable"),
    "trust": ("variable", "variable"),
    "set": ("variable", "word"),
    "copy": ("variable", "variable"),
    "keep": ("cell", "variable"),
    "recall": ("variable", "cell"),
    "if": ("variable", "word"),
    "call": ("variable", "procedure", "variables", "end"),
    "post": ("procedure", "variables", "end"),
    "ask": ("person", "procedure", "variables", "end"),
    "do": ("tool", "variables", "with", "variables", "end"),
    "return": ("variable",),
}
OWN_WORDS = ("from", "with", "end")


def words_of_parts(parts):
    """The words of all that stands ahead of the bodies, but for the word system."""
    found = []
    for name, members in parts.domains.items():
        found.extend(["domain", name, *members, "end"])
    for name in parts.channels:
        found.extend(["channel", name])
    for name in parts.persons:
        found.extend(["person", name])
    for name, kind in parts.cells.items():
        found.extend(["cell", name, kind])
    for name, domains in parts.tools.items():
        found.extend(["tool", name, *domains, "end"])
    for procedure in parts.procedures:
        found.extend(_words_of_head(procedure))
    return found


def _words_of_head(procedure):
    variables = _words_of_variables(procedure.parameters)
    if procedure.is_task:
        return ["task", procedure.name, *variables, "end"]
    return ["function", procedure.name, *variables, "gives", procedure.gives]


def _words_of_variables(variables):
    return [word for variable in variables for word in variable]


def words_of_body(parts, procedure, body):
    """The words of the body of this procedure."""
    names = {
        "variable": [name for name, _ in body.variables],
        "channel": parts.channels,
        "person": parts.persons,
        "cell": list(parts.cells),
        "tool": list(parts.tools),
        "procedure": parts.procedure_names(),
    }
    members = [parts.domains.get(kind, []) for _, kind in body.variables]
    statements = _words_of_statements(names, members, body.statements)
    return ["body", procedure.name, *_words_of_variables(body.variables), "begin", *statements, "end"]


def _words_of_statements(names, members, statements):
    found = []
    for statement in statements:
        found.extend(_words_of_statement(names, members, statement))
        if statement[0] == "if":
            found.extend(_words_within_if(names, members, statement))
    return found


def _words_within_if(names, members, statement):
    _, _, _, first, second = statement
    found = _words_of_statements(names, members, first)
    if second:
        found.extend(["else", *_words_of_statements(names, members, second)])
    return [*found, "end"]


def _words_of_statement(names, members, statement):
    """The words of a statement; those of an if up to the statements within it.

    `names` are the names by what they name, `members` the words of each variable's domain.
    """
    found = [statement[0]]
    at = 1
    for member in MEMBERS[statement[0]]:
        if member in OWN_WORDS:
            found.append(member)
            continue
        told = statement[at]
        at += 1
        if member == "variables":
            found.extend([names["variable"][variable] for variable in told])
        elif member == "word":
            # Where a word stands, the variable whose domain has it is told just ahead.
            found.append(members[statement[1]][told])
        else:
            found.append(names[member][told])
    return found


def words_of_yes_line(parts, yes_line):
    """The words of a line yes."""
    person, task, pattern = yes_line
    procedure = parts.procedures[task]
    named = _words_named(parts, [kind for _, kind in procedure.parameters], pattern)
    return ["yes", parts.persons[person], procedure.name, *named, "end"]


def words_of_policy(parts, rules):
    """The words of a policy."""
    found = ["policy"]
    for rule in rules:
        found.extend(_words_of_rule(parts, rule))
    return [*found, "end"]


def _words_of_rule(parts, rule):
    tool = list(parts.tools)[rule.tool]
    named = _words_named(parts, parts.tools[tool], rule.words)
    limit = "always" if rule.limit is None else str(rule.limit)
    return ["allow" if rule.allows else "deny", tool, *named, *_words_of_mark(parts, rule.mark), limit]


def _words_of_mark(parts, mark):
    if mark is None:
        return ["anyone"]
    if mark == 0:
        return ["nobody"]
    return ["from", *[parts.channels[channel] for channel in channels_of(mark)], "end"]


def words_of_start(parts, start):
    """The words of a start."""
    task, words = start
    procedure = parts.procedures[task]
    named = _words_named(parts, [kind for _, kind in procedure.parameters], words)
    return ["start", procedure.name, *named, "end"]


def _words_named(parts, kinds, numbers):
    """The words of these kinds by their numbers; None is any."""
    return ["any" if number is None else parts.domains[kind][number] for kind, number in zip(kinds, numbers)]

"""Reading the texts of systems."""

from nobodyspeaks.bodies import read_body, read_variables
from nobodyspeaks.marks import join
from nobodyspeaks.parts import Parts, Procedure, Rule
from nobodyspeaks.systems import System
from nobodyspeaks.words import Words

MOST_DOMAINS = 4
LEAST_WORDS = 2
MOST_WORDS = 4
MOST_CHANNELS = 6
MOST_PERSONS = 3
MOST_CELLS = 4
MOST_TOOLS = 4
MOST_TOOL_DOMAINS = 2
MOST_PROCEDURES = 6
MOST_PARAMETERS = 4
MOST_YES_LINES = 6
MOST_POLICIES = 3
MOST_RULES = 6
MOST_RULE_CHANNELS = 6
MOST_STARTS = 4
# Each number stands at the place that it tells.
LIMITS = ("always", "1", "2", "3", "4")


def read_system(text):
    """The System that the text tells; Misfit at the first word that cannot stand where it stands."""
    words = Words(text)
    words.need("system")
    parts = _read_parts(words)
    bodies = []
    for procedure in parts.procedures:
        words.need("body")
        words.need(procedure.name)
        bodies.append(read_body(words, parts, procedure))
    yes_lines = _read_rows(words, parts, ("yes",), MOST_YES_LINES, _read_yes_line)
    policies = _read_rows(words, parts, ("policy",), MOST_POLICIES, _read_policy)
    starts = _read_rows(words, parts, ("start",), MOST_STARTS, _read_start)
    words.need("end")
    words.finish()
    return System(parts, bodies, yes_lines, policies, starts)


def _read_rows(words, parts, openers, most, read_row):
    """What is read behind each of the opening words that stand here, at most so many.

    One too many is left: what is read next refuses it there, because no other part begins so.
    """
    found = []
    while len(found) < most and words.here() in openers:
        found.append(read_row(words, parts))
    return found


def _read_parts(words):
    parts = Parts()
    _read_rows(words, parts, ("domain",), MOST_DOMAINS, _read_domain)
    _read_rows(words, parts, ("channel",), MOST_CHANNELS, _read_channel)
    _read_rows(words, parts, ("person",), MOST_PERSONS, _read_person)
    _read_rows(words, parts, ("cell",), MOST_CELLS, _read_cell)
    _read_rows(words, parts, ("tool",), MOST_TOOLS, _read_tool)
    _read_rows(words, parts, ("function", "task"), MOST_PROCEDURES, _read_procedure)
    return parts


def _read_domain(words, parts):
    words.need("domain")
    name = words.fresh(parts.names())
    members = []
    while len(members) < LEAST_WORDS or (len(members) < MOST_WORDS and words.here() != "end"):
        members.append(words.fresh(members))
    words.need("end")
    parts.domains[name] = members


def _read_channel(words, parts):
    words.need("channel")
    parts.channels.append(words.fresh(parts.names()))


def _read_person(words, parts):
    words.need("person")
    parts.persons.append(words.fresh(parts.names()))


def _read_cell(words, parts):
    words.need("cell")
    name = words.fresh(parts.names())
    parts.cells[name] = words.pick(parts.kinds())


def _read_tool(words, parts):
    words.need("tool")
    name = words.fresh(parts.names())
    domains = []
    while len(domains) < MOST_TOOL_DOMAINS and words.here() != "end":
        domains.append(words.pick(parts.domains))
    words.need("end")
    parts.tools[name] = domains


def _read_procedure(words, parts):
    is_task = words.pick(("function", "task")) == "task"
    name = words.fresh(parts.names())
    closer = "end" if is_task else "gives"
    parameters = read_variables(words, parts, [], MOST_PARAMETERS, closer)
    gives = None if is_task else words.pick(parts.kinds())
    parts.procedures.append(Procedure(name, is_task, parameters, gives))


def _read_task(words, parts):
    """The number of the task that stands here, and the kinds of its parameters."""
    name = words.pick([procedure.name for procedure in parts.procedures if procedure.is_task])
    number = parts.procedure_names().index(name)
    return number, [kind for _, kind in parts.procedures[number].parameters]


def _read_named(words, parts, kind):
    """The number of the word of this kind that stands here, or None for any; a text has no words."""
    members = parts.domains.get(kind, [])
    word = words.pick([*members, "any"])
    return None if word == "any" else members.index(word)


def _read_yes_line(words, parts):
    words.need("yes")
    person = words.number(parts.persons)
    task, kinds = _read_task(words, parts)
    pattern = [_read_named(words, parts, kind) for kind in kinds]
    words.need("end")
    return person, task, tuple(pattern)


def _read_policy(words, parts):
    words.need("policy")
    rules = _read_rows(words, parts, ("allow", "deny"), MOST_RULES, _read_rule)
    words.need("end")
    return rules


def _read_rule(words, parts):
    allows = words.pick(("allow", "deny")) == "allow"
    tool = words.number(list(parts.tools))
    domains = list(parts.tools.values())[tool]
    named = [_read_named(words, parts, domain) for domain in domains]
    mark = _read_mark(words, parts)
    limit = words.number(LIMITS)
    return Rule(allows, tool, tuple(named), mark, limit if limit else None)


def _read_mark(words, parts):
    """The mark that a rule names: None for anyone, the empty one for nobody."""
    word = words.pick(("anyone", "nobody", "from"))
    if word == "anyone":
        return None
    if word == "nobody":
        return 0
    many = 1
    mark = 1 << words.number(parts.channels)
    while many < MOST_RULE_CHANNELS and words.here() != "end":
        mark = join(mark, 1 << words.number(parts.channels))
        many += 1
    words.need("end")
    return mark


def _read_start(words, parts):
    words.need("start")
    task, kinds = _read_task(words, parts)
    # A text has no words, so nothing can stand for one.
    named = [words.number(parts.domains.get(kind, [])) for kind in kinds]
    words.need("end")
    return task, tuple(named)

"""A second reading of points [5] to [8], made another way than the program's, to compare the two.

Each part of the grammar is a generator that yields what may stand next and is sent the word that stands there. What
may stand next is a dict: the words that may, and under None a row of names that are taken, where another name may.
"""

import re

KEPT = (
    "system domain channel person cell tool function task gives body begin end yes policy start text any allow deny "
    "anyone nobody from always with else edit cut read choose write take trust set copy keep recall if call post ask "
    "do return"
).split()
NAME = re.compile("[a-z][a-z0-9]{0,11}")


def one_of(*words):
    return dict.fromkeys(words, True)


def a_name(taken, *words):
    return {**one_of(*words), None: list(taken)}


def fits(allowed, word):
    if word in allowed:
        return True
    if None not in allowed or not NAME.fullmatch(word):
        return False
    return word not in KEPT and word not in allowed[None]


def oracle(text):
    """The number of the word at which the text is refused, or None."""
    return refused_by(a_system(Known()), text)


def edit_oracle(system_text, text):
    """The number of the word at which the edit of this system is refused, or None."""
    known = Known()
    assert refused_by(a_system(known), system_text) is None
    return refused_by(an_edit(known), text)


def refused_by(reading, text):
    words = re.findall("[^ ]+", text)
    allowed = next(reading)
    for at, word in enumerate(words):
        if not fits(allowed, word):
            return at
        try:
            allowed = reading.send(word)
        except StopIteration:
            return None if at + 1 == len(words) else at + 1
    return len(words)


def shortest(text):
    """The shortest form of a text that is read, made of its words alone."""
    words = re.findall("[^ ]+", text)
    channels = [words[at + 1] for at, word in enumerate(words) if word == "channel"]
    found = []
    in_rule = False
    for at, word in enumerate(words):
        if word == "else" and words[at + 1] == "end":
            continue
        if in_rule and word in channels:
            continue
        # A from behind a variable begins what is shown; a rule's stands behind a tool, a word or any.
        if word == "from" and words[at - 2] not in ("choose", "write"):
            named = words[at + 1:words.index("end", at)]
            found += ["from", *[channel for channel in channels if channel in named]]
            in_rule = True
            continue
        in_rule = False
        found.append(word)
    return " ".join(found)


class Known:
    def __init__(self):
        self.taken = []
        self.domains = {}
        self.channels = []
        self.persons = []
        self.cells = {}
        self.tools = {}
        self.procedures = {}

    def kinds(self):
        return [*self.domains, "text"]

    def tasks(self):
        return [name for name, (sort, _, _) in self.procedures.items() if sort == "task"]


# The parts that may begin, in their order, each with how many of it there may be.
PARTS = [(("domain",), 4), (("channel",), 6), (("person",), 3), (("cell",), 4), (("tool",), 4),
         (("function", "task"), 6)]
LATER = [("yes", 6), ("policy", 3), ("start", 4)]


def an_edit(known):
    yield one_of("edit")
    given = []
    while True:
        word = yield one_of("end", *(["body"] if len(given) < 3 else []))
        if word == "end":
            return
        name = yield one_of(*[name for name in known.procedures if name not in given])
        given.append(name)
        yield from a_body(known, *known.procedures[name])


def a_system(known):
    yield one_of("system")
    word = yield one_of(*openers(known, 0, 0))
    at, many = 0, 0
    while any(word in names for names, _ in PARTS):
        while word not in PARTS[at][0]:
            at, many = at + 1, 0
        many += 1
        yield from a_part(known, word)
        word = yield one_of(*openers(known, at, many))
    bodies = list(known.procedures)
    for number, name in enumerate(bodies):
        yield one_of(name)
        yield from a_body(known, *known.procedures[name])
        word = yield one_of(*(["body"] if number + 1 < len(bodies) else later_openers(0, 0)))
    at, many = 0, 0
    while word != "end":
        while word != LATER[at][0]:
            at, many = at + 1, 0
        many += 1
        yield from {"yes": a_yes, "policy": a_policy, "start": a_start}[word](known)
        word = yield one_of(*later_openers(at, many))


def openers(known, at, many):
    found = [name for names, _ in PARTS[at + 1:] for name in names]
    if many < PARTS[at][1]:
        found += PARTS[at][0]
    return found + (["body"] if known.procedures else later_openers(0, 0))


def later_openers(at, many):
    found = [name for name, _ in LATER[at + 1:]] + ["end"]
    return found + ([LATER[at][0]] if many < LATER[at][1] else [])


def a_part(known, word):
    name = yield a_name(known.taken)
    known.taken.append(name)
    if word == "channel":
        known.channels.append(name)
    elif word == "person":
        known.persons.append(name)
    elif word == "cell":
        known.cells[name] = yield one_of(*known.kinds())
    elif word == "domain":
        known.domains[name] = yield from a_row_of_words()
    elif word == "tool":
        known.tools[name] = yield from up_to(2, one_of(*known.domains), "end")
    else:
        variables = yield from some_variables(known, {}, 4, "end" if word == "task" else "gives")
        gives = (yield one_of(*known.kinds())) if word == "function" else None
        known.procedures[name] = (word, variables, gives)


def a_row_of_words():
    found = []
    while True:
        word = yield (one_of("end") if len(found) == 4 else a_name(found, *(["end"] if len(found) > 1 else [])))
        if word == "end":
            return found
        found.append(word)


def up_to(most, allowed, closer, least=0):
    found = []
    while True:
        here = {**(allowed if len(found) < most else {}), **(one_of(closer) if len(found) >= least else {})}
        word = yield here
        if word == closer:
            return found
        found.append(word)


def some_variables(known, ahead, most, closer):
    found = dict(ahead)
    while True:
        word = yield (a_name(found, closer) if len(found) < most else one_of(closer))
        if word == closer:
            return found
        found[word] = yield one_of(*known.kinds())


def a_body(known, sort, parameters, gives):
    for name, kind in parameters.items():
        yield one_of(name)
        yield one_of(kind)
    variables = yield from some_variables(known, parameters, 6, "begin")
    statements = "read choose write take trust set copy keep recall if call do".split()
    statements += ["post", "ask"] if sort == "task" else ["return"]
    stack = []
    many = 0
    while True:
        allowed = ["end"]
        if many < 30:
            allowed += [word for word in statements if word != "if" or len(stack) < 4]
        if stack and stack[-1] == "if":
            allowed.append("else")
        word = yield one_of(*allowed)
        if word == "else":
            stack[-1] = "else"
        elif word == "end":
            if not stack:
                return
            stack.pop()
        else:
            many += 1
            if word == "if":
                stack.append("if")
            yield from a_statement(known, variables, gives, word)


def of_kinds(variables, *kinds):
    return one_of(*[name for name, kind in variables.items() if kind in kinds])


def a_statement(known, variables, gives, word):
    of_domains = of_kinds(variables, *known.domains)
    of_text = of_kinds(variables, "text")
    if word == "read":
        yield of_text
        yield one_of(*known.channels)
    elif word in ("choose", "write"):
        yield of_domains if word == "choose" else of_text
        yield one_of("from")
        yield from up_to(3, one_of(*variables), "end")
    elif word in ("take", "trust"):
        yield of_domains
        yield of_text
    elif word in ("set", "if"):
        x = yield of_domains
        yield one_of(*known.domains[variables[x]])
    elif word == "copy":
        x = yield one_of(*variables)
        yield of_kinds(variables, variables[x])
    elif word == "keep":
        cell = yield one_of(*known.cells)
        yield of_kinds(variables, known.cells[cell])
    elif word == "recall":
        x = yield one_of(*variables)
        yield one_of(*[cell for cell, kind in known.cells.items() if kind == variables[x]])
    elif word == "return":
        yield of_kinds(variables, gives)
    elif word == "do":
        tool = yield one_of(*known.tools)
        for domain in known.tools[tool]:
            yield of_kinds(variables, domain)
        yield one_of("with")
        yield from up_to(2, of_text, "end")
    else:
        yield from a_passing_on(known, variables, word)


def a_passing_on(known, variables, word):
    fitting = known.tasks()
    if word == "call":
        x = yield one_of(*variables)
        fitting = [name for name, (_, _, gives) in known.procedures.items() if gives == variables[x]]
    elif word == "ask":
        yield one_of(*known.persons)
    name = yield one_of(*fitting)
    for kind in known.procedures[name][1].values():
        yield of_kinds(variables, kind)
    yield one_of("end")


def a_yes(known):
    yield one_of(*known.persons)
    task = yield one_of(*known.tasks())
    for kind in known.procedures[task][1].values():
        yield one_of("any", *known.domains.get(kind, []))
    yield one_of("end")


def a_policy(known):
    for number in range(7):
        word = yield one_of("end", *(["allow", "deny"] if number < 6 else []))
        if word == "end":
            return
        tool = yield one_of(*known.tools)
        for domain in known.tools[tool]:
            yield one_of("any", *known.domains[domain])
        word = yield one_of("anyone", "nobody", "from")
        if word == "from":
            yield from up_to(6, one_of(*known.channels), "end", 1)
        yield one_of("always", "1", "2", "3", "4")


def a_start(known):
    task = yield one_of(*known.tasks())
    for kind in known.procedures[task][1].values():
        yield one_of(*known.domains.get(kind, []))
    yield one_of("end")

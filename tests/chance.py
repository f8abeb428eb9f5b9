"""Small systems, made by chance (the same ones each time), and all that hosts of theirs can come to."""

import random

WORDS = {"d": ["a", "b", "c"], "e": ["y", "n"]}
KINDS = ["d", "e", "text"]
TOOLS = {"o": ["d"], "q": [], "l": ["e", "d"]}
CELLS = {"i": "d", "j": "text"}


class Maker:
    """Makes the text of a system; `many` is how many statements a body has at most, ifs apart."""

    def __init__(self, seed, many=4):
        self.chance = random.Random(seed)
        self.many = many
        self.channels = ["m", "w"][:self.chance.choice([1, 1, 2])]
        self.procedures = {}
        for name in ["f", "g"][:self.chance.choice([0, 1, 1, 2])]:
            self.procedures[name] = ("function", self.some_kinds(), self.chance.choice(KINDS))
        for name in ["t", "u", "v"][:self.chance.choice([1, 2, 2, 3])]:
            # The first one can be started.
            kinds = [kind for kind in self.some_kinds() if kind != "text" or name != "t"]
            self.procedures[name] = ("task", kinds, None)

    def some_kinds(self):
        return [self.chance.choice(KINDS) for _ in range(self.chance.choice([0, 1, 1, 2]))]

    def text(self):
        found = ["system"]
        for name, words in WORDS.items():
            found += ["domain", name, *words, "end"]
        for name in self.channels:
            found += ["channel", name]
        found += ["person", "p"]
        for name, kind in CELLS.items():
            found += ["cell", name, kind]
        for name, domains in TOOLS.items():
            found += ["tool", name, *domains, "end"]
        for name, (form, kinds, gives) in self.procedures.items():
            found += [form, name, *self.parameters(kinds), *(["end"] if gives is None else ["gives", gives])]
        for name in self.procedures:
            found += self.body(name)
        for name in self.procedures:
            if self.procedures[name][0] == "task" and self.chance.random() < 0.6:
                found += ["yes", "p", name, *self.named(self.procedures[name][1]), "end"]
        for _ in range(self.chance.choice([0, 1, 1, 1, 2, 3])):
            found += ["policy", *[word for _ in range(self.chance.choice([1, 2, 3, 4])) for word in self.rule()], "end"]
        return " ".join([*found, *self.starts(), "end"])

    def edit(self):
        """An edit that gives some of the procedures other bodies."""
        names = self.chance.sample(list(self.procedures), self.chance.randint(1, min(3, len(self.procedures))))
        return " ".join(["edit", *[word for name in names for word in self.body(name)], "end"])

    def parameters(self, kinds):
        return [word for number, kind in enumerate(kinds) for word in (f"p{number}", kind)]

    def named(self, kinds):
        return [self.chance.choice(["any", "any", *WORDS.get(kind, [])]) for kind in kinds]

    def starts(self):
        names = [name for name, (form, kinds, _) in self.procedures.items() if form == "task" and "text" not in kinds]
        found = []
        for _ in range(self.chance.choice([1, 2, 3, 4])):
            if names:
                name = self.chance.choice(names)
                words = [self.chance.choice(WORDS[kind]) for kind in self.procedures[name][1]]
                found += ["start", name, *words, "end"]
        return found

    def rule(self):
        tool = self.chance.choice(list(TOOLS))
        channel = self.chance.choice(self.channels)
        mark = self.chance.choice([["anyone"], ["anyone"], ["nobody"], ["from", channel, "end"]])
        limit = self.chance.choice(["always", "always", "1", "2"])
        return [self.chance.choice(["allow", "allow", "deny"]), tool, *self.named(TOOLS[tool]), *mark, limit]

    def body(self, name):
        form, kinds, gives = self.procedures[name]
        variables = {f"p{number}": kind for number, kind in enumerate(kinds)}
        variables.update({"x": "d", "z": "e", "s": "text"})
        row = [word for pair in variables.items() for word in pair]
        self.left = 30
        return ["body", name, *row, "begin", *self.statements(form, variables, gives, 0), "end"]

    def statements(self, form, variables, gives, depth):
        found = []
        for _ in range(self.chance.randint(0 if depth else 1, self.many - depth)):
            if self.left > 0:
                self.left -= 1
                found += self.statement(form, variables, gives, depth)
        return found

    def statement(self, form, variables, gives, depth):
        word = self.chance.choice(self.forms(form, depth))
        if word == "hear":
            return self.hearing(variables)
        if word != "if":
            made = getattr(self, f"make_{word}")(variables, gives)
            return [word, *made] if made is not None else []
        x = self.pick(variables, "d", "e")
        found = ["if", x, self.chance.choice(WORDS[variables[x]]), *self.statements(form, variables, gives, depth + 1)]
        if self.chance.random() < 0.4:
            found += ["else", *self.statements(form, variables, gives, depth + 1)]
        return [*found, "end"]

    def forms(self, form, depth):
        found = "read read choose write take take take trust set copy keep recall call call do do do".split()
        found += ["post", "post", "ask"] if form == "task" else ["return"]
        return found + (["if", "if", "if"] if depth < 2 else []) + (["hear", "hear"] if self.left > 2 else [])

    def hearing(self, variables):
        """What is read is taken for a word, and o is used by it."""
        self.left -= 2
        s, x = self.pick(variables, "text"), self.pick(variables, "d")
        return ["read", s, self.chance.choice(self.channels), "take", x, s, "do", "o", x, "with", "end"]

    def pick(self, variables, *kinds):
        return self.chance.choice([name for name, kind in variables.items() if kind in kinds])

    def make_read(self, variables, gives):
        return [self.pick(variables, "text"), self.chance.choice(self.channels)]

    def make_choose(self, variables, gives):
        return [self.pick(variables, "d", "e"), "from", *self.shown(variables), "end"]

    def make_write(self, variables, gives):
        return [self.pick(variables, "text"), "from", *self.shown(variables), "end"]

    def shown(self, variables):
        return [self.chance.choice(list(variables)) for _ in range(self.chance.choice([0, 1, 1, 2]))]

    def make_take(self, variables, gives):
        return [self.pick(variables, "d", "e"), self.pick(variables, "text")]

    def make_trust(self, variables, gives):
        return self.make_take(variables, gives)

    def make_set(self, variables, gives):
        x = self.pick(variables, "d", "e")
        return [x, self.chance.choice(WORDS[variables[x]])]

    def make_copy(self, variables, gives):
        x = self.chance.choice(list(variables))
        return [x, self.pick(variables, variables[x])]

    def make_keep(self, variables, gives):
        cell = self.chance.choice(list(CELLS))
        return [cell, self.pick(variables, CELLS[cell])]

    def make_recall(self, variables, gives):
        cell = self.chance.choice(list(CELLS))
        return [self.pick(variables, CELLS[cell]), cell]

    def make_call(self, variables, gives):
        return self.passing_on("function", variables)

    def make_post(self, variables, gives):
        return self.passing_on("task", variables)

    def make_ask(self, variables, gives):
        return ["p", *self.passing_on("task", variables)]

    def passing_on(self, form, variables):
        names = [name for name, procedure in self.procedures.items() if procedure[0] == form]
        if not names:
            return None
        name = self.chance.choice(names)
        _, kinds, gives = self.procedures[name]
        arguments = [self.pick(variables, kind) for kind in kinds]
        ahead = [] if gives is None else [self.pick(variables, gives)]
        return [*ahead, name, *arguments, "end"]

    def make_do(self, variables, gives):
        tool = self.chance.choice(list(TOOLS))
        texts = [self.pick(variables, "text") for _ in range(self.chance.choice([0, 1]))]
        return [tool, *[self.pick(variables, domain) for domain in TOOLS[tool]], "with", *texts, "end"]

    def make_return(self, variables, gives):
        return [self.pick(variables, gives)]


def targets(chance, many):
    """Some targets of these systems."""
    found = [(0, None), (1, None), (1, ()), (2, None)]
    found += [(0, (word,)) for word in range(3)] + [(2, (one, two)) for one in range(2) for two in range(3)]
    return chance.sample(found, many)


def come_to(host, most):
    """The uses that runs from this host make, and True if that is all; at most so many states are gone through."""
    found = [host.copy_of()]
    known = {where(host)}
    uses = {}
    for one in found:
        for choice in one.choices():
            other = one.copy_of()
            other.choose(choice)
            for use in other.uses()[len(one.uses()):]:
                uses[use] = True
            if where(other) not in known:
                if len(found) == most:
                    return list(uses), False
                known.add(where(other))
                found.append(other)
    return list(uses), True


def where(host):
    """What decides how a host goes on."""
    running = host.running()
    return host.ground(), tuple(host.waiting()), running if running is None else tuple(running)

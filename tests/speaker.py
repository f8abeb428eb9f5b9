"""Point [17] a second time: runs of a system made straight from the statements of its text, without its code.

Each procedure that runs is a Python generator that yields how many outcomes its next step has, and is sent one. Marks
are frozensets of channels; what a world tells has them as numbers again.
"""


def number_of(mark):
    return sum(2 ** channel for channel in mark)


def told_value(value):
    content, mark = value
    return (content, number_of(mark))


class World:
    """A system's text read in its shortest form, and a run of it."""

    def __init__(self, system, silent):
        self.silent = silent
        domains, self.channels, self.persons, cells, tools, procedures, self.policies, _ = system.told()
        self.domains = dict(domains)
        self.cell_names = [name for name, _ in cells]
        self.tools = dict(tools)
        self.heads = {name: (form, parameters, gives) for name, form, parameters, gives in procedures}
        self.names = [name for name, _, _, _ in procedures]
        self.words = system.text().split()
        self.bodies, self.yes_lines, self.rules, self.row = {}, [], [], []
        self.read()
        self.cells = [(0, frozenset()) for _ in cells]
        self.policy = 0
        self.counts = [[0 for _ in rules] for rules in self.rules]
        self.uses = []
        self.running = None
        self.outcomes = 0

    def read(self):
        """Reads the bodies and all behind them."""
        at = self.words.index("body") if "body" in self.words else len(self.words)
        while at < len(self.words):
            word = self.words[at]
            if word == "body":
                name = self.words[at + 1]
                begin = self.words.index("begin", at)
                row = self.words[at + 2:begin]
                statements, at = self.read_statements(dict(zip(row[::2], row[1::2])), begin + 1)
                self.bodies[name] = (dict(zip(row[::2], row[1::2])), statements)
                at += 1
            elif word in ("yes", "start"):
                end = self.words.index("end", at)
                row = self.words[at + 1:end]
                if word == "yes":
                    self.yes_lines.append((row[0], row[1], row[2:]))
                else:
                    kinds = [kind for _, kind in self.heads[row[0]][1]]
                    arguments = [(self.domains[kind].index(one), frozenset()) for kind, one in zip(kinds, row[1:])]
                    self.row.append((row[0], arguments, frozenset()))
                at = end + 1
            elif word == "policy":
                at = self.read_rules(at + 1)
            else:
                at += 1

    def read_rules(self, at):
        rules = []
        while self.words[at] != "end":
            tool = self.words[at + 1]
            many = len(self.tools[tool])
            named = self.words[at + 2:at + 2 + many]
            rule = [self.words[at] == "allow", tool, named, self.words[at + 2 + many]]
            at += 3 + many
            if rule[3] == "from":
                end = self.words.index("end", at)
                rule[3] = [self.channels.index(name) for name in self.words[at:end]]
                at = end + 1
            rules.append((*rule, self.words[at]))
            at += 1
        self.rules.append(rules)
        return at + 1

    def read_statements(self, kinds, at):
        """The statements from this word on, and the number of the end or else behind them."""
        found = []
        while self.words[at] not in ("end", "else"):
            word = self.words[at]
            if word == "if":
                head = self.words[at:at + 3]
                first, at = self.read_statements(kinds, at + 3)
                second = []
                if self.words[at] == "else":
                    second, at = self.read_statements(kinds, at + 1)
                found.append((*head, first, second))
                at += 1
            elif word in ("choose", "write", "call", "post", "ask", "do"):
                end = self.words.index("end", at)
                found.append(tuple(self.words[at:end]))
                at = end + 1
            elif word == "return":
                found.append(tuple(self.words[at:at + 2]))
                at += 2
            else:
                found.append(tuple(self.words[at:at + 3]))
                at += 3
        return found, at

    def choose(self, choice):
        if choice[0] == "turn":
            self.policy += 1
        elif choice[0] == "take":
            name, arguments, mark = self.row.pop(choice[1])
            self.running = Frame(self, name, arguments, mark).run()
            self.outcomes = next(self.running)
        else:
            try:
                self.outcomes = self.running.send(choice[1])
            except StopIteration:
                self.running = None

    def told(self):
        cells = tuple(told_value(value) for value in self.cells)
        ground = (cells, self.policy, tuple(tuple(row) for row in self.counts))
        waiting = [
            (self.names.index(name), tuple(told_value(value) for value in arguments), number_of(mark))
            for name, arguments, mark in self.row
        ]
        return ground, waiting, self.uses

    def choices(self):
        if self.running is not None:
            return [("go", number) for number in range(self.outcomes)]
        turns = [("turn",)] if self.policy + 1 < len(self.rules) else []
        return turns + [("take", number) for number in range(len(self.row))]

    def use(self, tool, words, mark):
        ahead = tuple(self.counts[self.policy]) if self.rules else ()
        rule, allowed = None, False
        for number, (allows, rule_tool, named, who, limit) in enumerate(self.rules[self.policy] if self.rules else []):
            texts = [self.domains[domain][word] for domain, word in zip(self.tools[tool], words)]
            if rule_tool != tool or any(one not in ("any", text) for one, text in zip(named, texts)):
                continue
            if (who == "nobody" and mark) or (isinstance(who, list) and not mark <= set(who)):
                continue
            if limit == "always" or ahead[number] < int(limit):
                rule, allowed = number, allows
                if limit != "always":
                    self.counts[self.policy][number] += 1
                break
        tool_number = list(self.tools).index(tool)
        self.uses.append((tool_number, tuple(words), number_of(mark), self.policy, rule, ahead, allowed))


class Frame:
    def __init__(self, world, name, arguments, mark):
        self.world = world
        self.name = name
        self.kinds, self.statements = world.bodies[name]
        self.own = mark
        self.values = {variable: (0, mark) for variable in self.kinds}
        for variable, (content, one) in zip(self.kinds, arguments):
            self.values[variable] = (content, one | mark)

    def run(self):
        """The answer and the own mark at the end."""
        answer = yield from self.go_through(self.statements)
        if answer is None:
            yield 1
            answer = (0, self.own)
        return answer, self.own

    def go_through(self, statements):
        """The answer, if one is returned."""
        for statement in statements:
            answer = yield from getattr(self, "do_" + statement[0])(*statement[1:])
            if answer is not None:
                return answer
        return None

    def set_to(self, variable, content, mark):
        self.values[variable] = (content, mark | self.own)

    def join_of(self, variables):
        return frozenset().union(*[self.values[variable][1] for variable in variables])

    def words_of(self, variable):
        return self.world.domains[self.kinds[variable]]

    def do_read(self, x, channel):
        outcome = yield 1 if self.world.silent else 2
        self.set_to(x, outcome, frozenset([self.world.channels.index(channel)]))

    def do_choose(self, x, _, *shown):
        outcome = yield len(self.words_of(x))
        self.set_to(x, outcome, self.join_of(shown))

    def do_write(self, x, _, *shown):
        yield 1
        self.set_to(x, 1, self.join_of(shown))

    def do_take(self, x, t):
        outcome = yield len(self.words_of(x)) if self.values[t][0] else 1
        self.set_to(x, outcome, self.values[t][1])

    def do_trust(self, x, t):
        outcome = yield len(self.words_of(x)) if self.values[t][0] else 1
        self.set_to(x, outcome, frozenset())

    def do_set(self, x, word):
        yield 1
        self.set_to(x, self.words_of(x).index(word), frozenset())

    def do_copy(self, x, y):
        yield 1
        self.set_to(x, *self.values[y])

    def do_keep(self, cell, x):
        yield 1
        number = self.world.cell_names.index(cell)
        _, kept = self.world.cells[number]
        content, mark = self.values[x]
        if not self.own:
            self.world.cells[number] = (content, mark)
        elif self.own <= kept:
            self.world.cells[number] = (content, mark | self.own | kept)

    def do_recall(self, x, cell):
        yield 1
        self.set_to(x, *self.world.cells[self.world.cell_names.index(cell)])

    def do_if(self, x, word, first, second):
        yield 1
        content, mark = self.values[x]
        self.own = self.own | mark
        if content != self.words_of(x).index(word):
            return (yield from self.go_through(second))
        answer = yield from self.go_through(first)
        if answer is None:
            # The jump behind the statements.
            yield 1
        return answer

    def do_call(self, x, function, *variables):
        yield 1
        called = Frame(self.world, function, [self.values[variable] for variable in variables], self.own)
        (content, mark), own = yield from called.run()
        self.own = self.own | own
        self.set_to(x, content, mark | own)

    def do_post(self, task, *variables):
        yield 1
        arguments = [(self.values[variable][0], self.values[variable][1] | self.own) for variable in variables]
        self.world.row.append((task, arguments, self.own))

    def do_ask(self, person, task, *variables):
        yield 1
        arguments = [self.values[variable] for variable in variables]
        kinds = [kind for _, kind in self.world.heads[task][1]]
        for one, other, pattern in self.world.yes_lines:
            if (one, other) != (person, task):
                continue
            named = [
                word == "any" or self.world.domains[kind].index(word) == content
                for word, kind, (content, _) in zip(pattern, kinds, arguments)
            ]
            if all(named):
                heard = [value if kind == "text" else (value[0], frozenset()) for kind, value in zip(kinds, arguments)]
                self.world.row.append((task, heard, frozenset()))
                return

    def do_do(self, tool, *row):
        yield 1
        variables = row[:row.index("with")]
        words = [self.values[variable][0] for variable in variables]
        self.world.use(tool, words, self.join_of(variables) | self.own)

    def do_return(self, x):
        yield 1
        content, mark = self.values[x]
        return (content, mark | self.own)

"""Reading the bodies of procedures."""

from nobodyspeaks.parts import TEXT, Body

MOST_VARIABLES = 6
MOST_STATEMENTS = 30
MOST_DEPTH = 4
MOST_SHOWN = 3
MOST_TEXTS = 2


class BodyReader:
    """Reads the statements of a body, from its words, by the parts of the system and the variables of the body."""

    def __init__(self, words, parts, procedure, variables):
        self.words = words
        self.parts = parts
        self.procedure = procedure
        self.variables = variables
        self.many = 0

    def kind_of(self, variable):
        """The kind of the variable of this number."""
        return self.variables[variable][1]

    def variable(self, kinds):
        """The number of the variable that stands here, which is of one of these kinds."""
        word = self.words.pick([name for name, kind in self.variables if kind in kinds])
        return [name for name, _ in self.variables].index(word)

    def any_variable(self):
        """The number of the variable that stands here, of whatever kind."""
        return self.variable(self.parts.kinds())

    def domain_variable(self):
        """The number of the variable that stands here, which is of a domain."""
        return self.variable(self.parts.domains)

    def text_variable(self):
        """The number of the variable that stands here, which is a text."""
        return self.variable([TEXT])

    def word_of(self, variable):
        """The number of the word that stands here, which is of the domain of the variable."""
        return self.words.number(self.parts.domains[self.kind_of(variable)])

    def some_variables(self, kinds, most):
        """The variables up to an end, of these kinds, at most so many."""
        found = []
        while len(found) < most and self.words.here() != "end":
            found.append(self.variable(kinds))
        self.words.need("end")
        return tuple(found)

    def procedure_with(self, fitting):
        """The number of the procedure that stands here, whose name is one of those that fit, and its arguments."""
        name = self.words.pick(fitting)
        number = self.parts.procedure_names().index(name)
        arguments = [self.variable([kind]) for _, kind in self.parts.procedures[number].parameters]
        self.words.need("end")
        return number, tuple(arguments)

    def task_with(self):
        """The number of the task that stands here, and its arguments."""
        return self.procedure_with([other.name for other in self.parts.procedures if other.is_task])

    def can_begin(self, depth):
        """True if the word that is come to can begin a statement, so many ifs deep."""
        word = self.words.here()
        if word not in FORMS or self.many == MOST_STATEMENTS:
            return False
        if word == "if":
            return depth < MOST_DEPTH
        if word in ("post", "ask"):
            return self.procedure.is_task
        return word != "return" or not self.procedure.is_task

    def read_statements(self, depth):
        """The statements that stand here, so many ifs deep, up to a word that can begin none."""
        found = []
        while self.can_begin(depth):
            word = self.words.here()
            self.words.need(word)
            self.many += 1
            form = FORMS[word]
            found.append(form(self, depth))
        return found


def _read(reader, _):
    x = reader.text_variable()
    return "read", x, reader.words.number(reader.parts.channels)


def _choose(reader, _):
    x = reader.domain_variable()
    reader.words.need("from")
    return "choose", x, reader.some_variables(reader.parts.kinds(), MOST_SHOWN)


def _write(reader, _):
    x = reader.text_variable()
    reader.words.need("from")
    return "write", x, reader.some_variables(reader.parts.kinds(), MOST_SHOWN)


def _take(reader, _):
    x = reader.domain_variable()
    return "take", x, reader.text_variable()


def _trust(reader, _):
    x = reader.domain_variable()
    return "trust", x, reader.text_variable()


def _set(reader, _):
    x = reader.domain_variable()
    return "set", x, reader.word_of(x)


def _copy(reader, _):
    x = reader.any_variable()
    return "copy", x, reader.variable([reader.kind_of(x)])


def _keep(reader, _):
    cells = reader.parts.cells
    name = reader.words.pick(cells)
    return "keep", list(cells).index(name), reader.variable([cells[name]])


def _recall(reader, _):
    x = reader.any_variable()
    cells = reader.parts.cells
    name = reader.words.pick([cell for cell in cells if cells[cell] == reader.kind_of(x)])
    return "recall", x, list(cells).index(name)


def _if(reader, depth):
    x = reader.domain_variable()
    word = reader.word_of(x)
    first = reader.read_statements(depth + 1)
    second = []
    if reader.words.here() == "else":
        reader.words.need("else")
        second = reader.read_statements(depth + 1)
    reader.words.need("end")
    return "if", x, word, first, second


def _call(reader, _):
    x = reader.any_variable()
    kind = reader.kind_of(x)
    functions = [other for other in reader.parts.procedures if not other.is_task]
    number, arguments = reader.procedure_with([other.name for other in functions if other.gives == kind])
    return "call", x, number, arguments


def _post(reader, _):
    number, arguments = reader.task_with()
    return "post", number, arguments


def _ask(reader, _):
    person = reader.words.number(reader.parts.persons)
    number, arguments = reader.task_with()
    return "ask", person, number, arguments


def _do(reader, _):
    tools = reader.parts.tools
    name = reader.words.pick(tools)
    words = [reader.variable([domain]) for domain in tools[name]]
    reader.words.need("with")
    return "do", list(tools).index(name), tuple(words), reader.some_variables([TEXT], MOST_TEXTS)


def _return(reader, _):
    return "return", reader.variable([reader.procedure.gives])


FORMS = {
    "read": _read,
    "choose": _choose,
    "write": _write,
    "take": _take,
    "trust": _trust,
    "set": _set,
    "copy": _copy,
    "keep": _keep,
    "recall": _recall,
    "if": _if,
    "call": _call,
    "post": _post,
    "ask": _ask,
    "do": _do,
    "return": _return,
}


def read_variables(words, parts, variables, most, closer):
    """These variables and those that stand here, up to the closing word, which is gone past; at most so many."""
    found = list(variables)
    while len(found) < most and words.here() != closer:
        name = words.fresh([other for other, _ in found])
        found.append((name, words.pick(parts.kinds())))
    words.need(closer)
    return found


def read_body(words, parts, procedure):
    """The body of this procedure, from behind its name to its end."""
    for name, kind in procedure.parameters:
        words.need(name)
        words.need(kind)
    variables = read_variables(words, parts, procedure.parameters, MOST_VARIABLES, "begin")
    reader = BodyReader(words, parts, procedure, variables)
    statements = reader.read_statements(0)
    words.need("end")
    return Body(variables, statements)

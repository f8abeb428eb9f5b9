"""What a system is made of. A kind is the name of a domain, or TEXT; all else is told by its number."""

TEXT = "text"


class Procedure:
    """The head of a task or a function. Its parameters are tuples (variable, kind); a task gives None."""

    def __init__(self, name, is_task, parameters, gives):
        self.name = name
        self.is_task = is_task
        self.parameters = parameters
        self.gives = gives


class Parts:
    """What has a name in a system, in the order of the text; dicts tell by the name what is known of it."""

    def __init__(self):
        self.domains = {}
        self.channels = []
        self.persons = []
        self.cells = {}
        self.tools = {}
        self.procedures = []

    def procedure_names(self):
        """The names of the procedures, by their numbers."""
        return [procedure.name for procedure in self.procedures]

    def names(self):
        """All names that are taken among the parts."""
        procedures = self.procedure_names()
        return [*self.domains, *self.channels, *self.persons, *self.cells, *self.tools, *procedures]

    def kinds(self):
        """All kinds that a variable can be of."""
        return [*self.domains, TEXT]


class Body:
    """The body of a procedure: its variables, tuples (name, kind) with the parameters first, and its statements.

    A statement is the tuple of its instruction; an if is ("if", variable, word, statements, statements behind else).
    """

    def __init__(self, variables, statements):
        self.variables = variables
        self.statements = statements


class Rule:
    """A rule of a policy. A word that is None is any; a mark that is None is anyone's; a limit that is None is always.

    Nobody is the empty mark: within it lies no other one.
    """

    def __init__(self, allows, tool, words, mark, limit):
        self.allows = allows
        self.tool = tool
        self.words = words
        self.mark = mark
        self.limit = limit

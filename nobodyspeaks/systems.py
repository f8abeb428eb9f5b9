"""Systems of agents."""

from nobodyspeaks.coding import instructions_of
from nobodyspeaks.errors import Missing
from nobodyspeaks.writing import words_of_body, words_of_parts, words_of_policy, words_of_start, words_of_yes_line


class System:
    """A system that was read. It never changes.

    Bodies and instructions stand by the numbers of their procedures. A line yes is a tuple (person, task, pattern) in
    which None is any, a policy a list of Rules, a start a tuple (task, words), all by numbers.
    """

    def __init__(self, parts, bodies, yes_lines, policies, starts):
        self.parts = parts
        self.bodies = bodies
        self.yes_lines = yes_lines
        self.policies = policies
        self.starts = starts
        self.instructions = [instructions_of(body.statements) for body in bodies]

    def text(self):
        """The text of the system in its shortest form."""
        found = ["system", *words_of_parts(self.parts)]
        for procedure, body in zip(self.parts.procedures, self.bodies):
            found.extend(words_of_body(self.parts, procedure, body))
        for yes_line in self.yes_lines:
            found.extend(words_of_yes_line(self.parts, yes_line))
        for rules in self.policies:
            found.extend(words_of_policy(self.parts, rules))
        for start in self.starts:
            found.extend(words_of_start(self.parts, start))
        return " ".join([*found, "end"])

    def told(self):
        """The tuple (domains, channels, persons, cells, tools, procedures, policies, starts)."""
        parts = self.parts
        return (
            [(name, list(words)) for name, words in parts.domains.items()],
            list(parts.channels),
            list(parts.persons),
            list(parts.cells.items()),
            [(name, list(domains)) for name, domains in parts.tools.items()],
            [_told_of(procedure) for procedure in parts.procedures],
            len(self.policies),
            len(self.starts),
        )

    def code(self, procedure):
        """The list of the instructions of the procedure of this name."""
        names = self.parts.procedure_names()
        if procedure not in names:
            raise Missing(f"there is no procedure {procedure}")
        return list(self.instructions[names.index(procedure)])

    def points(self):
        """The list of the points, tuples (procedure's name, place), at which a tool is used."""
        names = self.parts.procedure_names()
        found = []
        for name, instructions in zip(names, self.instructions):
            found.extend([(name, place) for place, row in enumerate(instructions) if row[0] == "do"])
        return found


def _told_of(procedure):
    form = "task" if procedure.is_task else "function"
    return procedure.name, form, list(procedure.parameters), procedure.gives

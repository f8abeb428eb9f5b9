"""What strangers can bring about, told with a run that does it or with a paper that shows that none does."""

from nobodyspeaks.covers import lies_within, make_cover, node_of
from nobodyspeaks.errors import Busy, Missing
from nobodyspeaks.lines import close_by_ways, endings, first_line, line_of_task

MOST_RESTS = 30


class Search:
    """Looks for a run that hits a target, from rest to rest.

    A rest is a tuple (ground, row of the tasks that wait). At its number stand its node and its way: None for the
    first one, otherwise (number of the rest ahead, place of the task taken there, its line that has ended), with None
    and None for a turn.
    """

    def __init__(self, system, target, silent):
        self.system = system
        self.target = target
        self.silent = silent
        self.rests = []
        self.nodes = []
        self.rest_ways = []
        # A task waits on the same ground at many rests, and the same lines follow each time.
        self.closings = {}

    def seek(self, ground, row):
        """A run that hits the target from the rest at which these tasks wait on this ground, or None."""
        self._add(ground, row, None)
        at = 0
        while at < len(self.rests) and len(self.rests) <= MOST_RESTS:
            ground, row = self.rests[at]
            for place, task in enumerate(row):
                closed, ways = self._closing(task, ground)
                if closed is None:
                    return None
                done = [line for line in closed if line[5]]
                if done:
                    return [*self._run_to(at), ("take", place), *_choices_to(ways, done[0])]
            self._add_behind(at)
            at += 1
        return None

    def _closing(self, task, ground):
        """What closing the lines of the task on the ground gives."""
        first = line_of_task(self.system, task, ground)
        if first not in self.closings:
            self.closings[first] = close_by_ways(self.system, self.target, self.silent, [first])
        return self.closings[first]

    def _add(self, ground, row, way):
        """Adds the rest, unless it lies within one that is there; behind one too many, which ends the search, none."""
        node = node_of(ground, row)
        if len(self.rests) <= MOST_RESTS and not any([lies_within(node, other) for other in self.nodes]):
            self.rests.append((ground, row))
            self.nodes.append(node)
            self.rest_ways.append(way)

    def _add_behind(self, at):
        """Adds the rests behind the one of this number."""
        ground, row = self.rests[at]
        cells, policy, counts = ground
        if policy + 1 < len(self.system.policies):
            self._add((cells, policy + 1, counts), row, (at, None, None))
        for place, task in enumerate(row):
            if task in row[:place]:
                # It waits twice: the rests behind it are there already.
                continue
            closed, _ = self._closing(task, ground)
            # The task's own first line is the first of all.
            entry, start, _, _, _, _ = closed[0]
            for ending in endings(self.system, closed, entry, start):
                self._add(ending[3], [*row[:place], *row[place + 1:], *ending[4]], (at, place, ending))

    def _run_to(self, at):
        """The choices that lead to the rest of this number."""
        way = self.rest_ways[at]
        if way is None:
            return []
        ahead, place, ending = way
        run = self._run_to(ahead)
        if ending is None:
            return [*run, ("turn",)]
        ground, row = self.rests[ahead]
        _, ways = self._closing(row[place], ground)
        return [*run, ("take", place), *_choices_within(ways, ending), ("go", 0)]


def _choices_to(ways, line):
    """The choices from the beginning of the task to the line, also through calls that have not ended."""
    way = ways[first_line(line[0], line[1])]
    within = _choices_within(ways, line)
    if way is None:
        return within
    _, caller = way
    return [*_choices_to(ways, caller), ("go", 0), *within]


def _choices_within(ways, line):
    """The choices from the beginning of the line's own frame to the line."""
    way = ways[line]
    if way is None or way[0] == "begins":
        return []
    if way[0] == "goes":
        _, ahead, outcome = way
        return [*_choices_within(ways, ahead), ("go", outcome)]
    _, caller, ending = way
    return [*_choices_within(ways, caller), ("go", 0), *_choices_within(ways, ending), ("go", 0)]


def can(host, target, silent):
    """("yes", run) with a run that hits the target, ("no", paper) with a paper that none does, or ("open",)."""
    if not host.at_rest():
        raise Busy("what can be brought about is asked at rest")
    run = Search(host.system, target, silent).seek(host.ground(), host.waiting())
    if run is not None:
        return "yes", run
    paper = make_cover(host, target, silent)
    return ("open",) if paper is None else ("no", paper)


def strangers(host, target):
    """What strangers have to do with the target being hit: "anyway", "brought" or "never", or "open"."""
    in_silence = can(host, target, True)
    if in_silence[0] == "yes":
        return "anyway", in_silence[1]
    if in_silence[0] == "open":
        return ("open",)
    told = can(host, target, False)
    if told[0] == "yes":
        return "brought", told[1], in_silence[1]
    return ("never", told[1]) if told[0] == "no" else told


def turned(host, tool):
    """What strangers tells of each row of words of the tool: a list of tuples (words, what it tells)."""
    domains = list(host.system.parts.tools.values())
    if not 0 <= tool < len(domains):
        raise Missing(f"there is no tool {tool}")
    return [(words, strangers(host, (tool, words))) for words in _rows_of_words(host.system, domains[tool])]


def _rows_of_words(system, domains):
    """All rows of words of these domains, the last word changing first."""
    rows = [()]
    for domain in domains:
        rows = [(*row, word) for row in rows for word in range(len(system.parts.domains[domain]))]
    return rows

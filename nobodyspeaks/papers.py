"""Papers of uses, and their judge."""

from nobodyspeaks.policies import decide


def judge_use(system, use):
    """True if the rules decide the use as it tells, and its point is one at which its tool is used."""
    tool, words, mark, policy, rule, counts, allowed, point = use
    if not _speaks_of_tool(system, tool, words) or not _speaks_of_policy(system, policy, counts):
        return False
    return decide(system, policy, counts, tool, words, mark) == (rule, allowed) and _uses_tool(system, point, tool)


def _speaks_of_tool(system, tool, words):
    """True if there is this tool, and it has as many words."""
    domains = list(system.parts.tools.values())
    return 0 <= tool < len(domains) and len(words) == len(domains[tool])


def _speaks_of_policy(system, policy, counts):
    """True if there is this policy, and it has as many rules; without policies, the first one in force has none."""
    policies = system.policies if system.policies else [[]]
    return 0 <= policy < len(policies) and len(counts) == len(policies[policy])


def _uses_tool(system, point, tool):
    """True if the tool is used at this point."""
    name, place = point
    names = system.parts.procedure_names()
    if name not in names:
        return False
    instructions = system.instructions[names.index(name)]
    return 0 <= place < len(instructions) and instructions[place][:2] == ("do", tool)

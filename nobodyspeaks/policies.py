"""Policies, and the ground on which they begin."""

from nobodyspeaks.marks import within


def first_ground(system):
    """The ground (cells, policy, counts) on which nothing has been done yet."""
    cells = tuple([(0, 0) for _ in system.parts.cells])
    counts = tuple([tuple([0 for _ in rules]) for rules in system.policies])
    return cells, 0, counts


def decide(system, policy, counts, tool, words, mark):
    """The tuple (rule, allowed) of the first rule of the policy that speaks of this use; (None, False) without one."""
    if not 0 <= policy < len(system.policies):
        return None, False
    for number, rule in enumerate(system.policies[policy]):
        if _speaks(rule, tool, words, mark) and (rule.limit is None or counts[number] < rule.limit):
            return number, rule.allows
    return None, False


def _speaks(rule, tool, words, mark):
    """True if the rule speaks of this use as long as its count lets it."""
    if rule.tool != tool or not names_words(rule.words, words):
        return False
    return rule.mark is None or within(mark, rule.mark)


def names_words(named, words):
    """True if each word that is named is the word at its place; None names none."""
    return all([one is None or one == word for one, word in zip(named, words)])

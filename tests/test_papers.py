"""Point [22]: nobodyspeaks/papers.py."""

import unittest

from nobodyspeaks import papers
from nobodyspeaks.hosts import Host
from nobodyspeaks.papers import judge_use
from nobodyspeaks.reading import read_system

# Tools o (two words), q (none) and h (one): 0 to 2. The points of t: o at 1, q at 2, h at 4 within an if, o at 6.
HEAD = (
    "system domain d a b c end domain e y n end channel m channel w channel v tool o d e end tool q end tool h d end "
    "function f gives d task t end task u end "
    "body f x d begin do h x with end return x end "
    "body t x d z e s text begin "
    "read s m do o x z with s end do q with end if x a do h x with end end do o x z with s s end end "
    "body u begin end "
)
RULES = (
    "policy allow o a any from m end 2 deny o any n anyone always allow q nobody 1 end "
    "policy end policy allow h any anyone always deny q anyone 3 allow q anyone always end "
)
TOLD = [
    ((0, (0, 0), 1, 0, 0, (0, 0, 0), True, ("t", 1)), True),
    ((0, (0, 0), 1, 0, 0, (1, 0, 0), True, ("t", 1)), True),
    ((0, (0, 0), 1, 0, None, (2, 0, 0), False, ("t", 1)), True),
    ((0, (0, 1), 1, 0, 1, (2, 0, 0), False, ("t", 6)), True),
    ((0, (0, 1), 0, 0, 0, (0, 0, 0), True, ("t", 6)), True),
    ((0, (0, 1), 3, 0, 1, (0, 0, 0), False, ("t", 6)), True),
    ((1, (), 0, 0, 2, (0, 0, 0), True, ("t", 2)), True),
    ((1, (), 0, 0, None, (0, 0, 1), False, ("t", 2)), True),
    ((1, (), 4, 0, None, (0, 0, 0), False, ("t", 2)), True),
    ((1, (), 4, 1, None, (), False, ("t", 2)), True),
    ((1, (), 4, 2, 1, (0, 0, 0), False, ("t", 2)), True),
    ((1, (), 4, 2, 2, (0, 3, 0), True, ("t", 2)), True),
    ((2, (2,), 7, 2, 0, (0, 0, 0), True, ("t", 4)), True),
    ((2, (2,), 7, 2, 0, (0, 0, 0), True, ("f", 0)), True),
    ((2, (2,), 7, 0, None, (0, 0, 0), False, ("f", 0)), True),
]


def changed(use, at, member):
    return use[:at] + (member,) + use[at + 1:]


class PapersTest(unittest.TestCase):
    def setUp(self):
        self.system = read_system(HEAD + RULES + "start t end start t end end")

    def check(self, use, expected, system=None):
        system = self.system if system is None else system
        text = system.text()
        self.assertIs(judge_use(system, use), expected, use)
        self.assertEqual(system.text(), text)

    def test_interface(self):
        self.assertEqual(judge_use.__module__, "nobodyspeaks.papers")
        self.assertIs(papers.judge_use(system=self.system, use=TOLD[0][0]), True)

    def test_uses_that_are_so(self):
        for use, expected in TOLD:
            self.check(use, expected)

    def test_another_rule(self):
        for use, _ in TOLD:
            for rule in (None, 0, 1, 2, 3):
                if rule != use[4]:
                    self.check(changed(use, 4, rule), False)

    def test_another_decision(self):
        for use, _ in TOLD:
            self.check(changed(use, 6, not use[6]), False)

    def test_both_told_otherwise(self):
        self.check((0, (0, 0), 1, 0, 1, (0, 0, 0), False, ("t", 1)), False)
        self.check((0, (0, 1), 1, 0, 0, (2, 0, 0), True, ("t", 1)), False)

    def test_another_mark_policy_or_count_that_decides(self):
        use = (0, (0, 0), 1, 0, 0, (1, 0, 0), True, ("t", 1))
        self.check(use, True)
        self.check(changed(use, 2, 2), False)
        self.check(changed(use, 2, 3), False)
        self.check(changed(use, 3, 2), False)
        self.check(changed(use, 5, (2, 0, 0)), False)
        self.check(changed(use, 1, (1, 0)), False)

    def test_another_number_of_words(self):
        for tool, point, right in ((0, ("t", 1), 2), (1, ("t", 2), 0), (2, ("t", 4), 1)):
            for many in range(5):
                self.check((tool, (0,) * many, 0, 1, None, (), False, point), many == right)
        # Words of a number that rules could take.
        self.check((1, (0,), 0, 0, 2, (0, 0, 0), True, ("t", 2)), False)
        self.check((0, (0,), 0, 0, 0, (0, 0, 0), True, ("t", 1)), False)
        self.check((0, (0, 0, 0), 0, 0, 0, (0, 0, 0), True, ("t", 1)), False)
        self.check((2, (), 7, 2, 0, (0, 0, 0), True, ("t", 4)), False)

    def test_another_number_of_counts(self):
        for policy, right in ((0, 3), (1, 0), (2, 3)):
            for many in range(6):
                use = (2, (0,), 0, policy, 0 if policy == 2 else None, (0,) * many, policy == 2, ("f", 0))
                self.check(use, many == right)
        self.check((1, (), 0, 0, 2, (0, 0, 0, 0), True, ("t", 2)), False)
        self.check((0, (0, 0), 1, 0, 0, (0,), True, ("t", 1)), False)
        self.check((0, (0, 0), 1, 0, 0, (0, 0), True, ("t", 1)), False)
        self.check((0, (0, 0), 1, 0, 0, (), True, ("t", 1)), False)

    def test_a_tool_that_there_is_not(self):
        for tool, words in ((3, ()), (3, (0,)), (4, ()), (100, (0, 0)), (-1, (0,)), (-2, ())):
            for point in (("t", 1), ("t", 2), ("f", 0)):
                self.check((tool, words, 0, 1, None, (), False, point), False)

    def test_a_policy_that_there_is_not(self):
        for policy in (3, 4, 100, -1, -2):
            for counts in ((), (0, 0, 0)):
                self.check((1, (), 0, policy, None, counts, False, ("t", 2)), False)
                self.check((1, (), 0, policy, 2, counts, True, ("t", 2)), False)

    def test_a_point_of_a_name_that_there_is_not(self):
        for name in ("v", "", "o", "q", "T", "d", "task"):
            for place in range(7):
                self.check((1, (), 0, 0, 2, (0, 0, 0), True, (name, place)), False)

    def test_a_place_that_there_is_not(self):
        for place in (-1, -2, -6, -7, -8, 8, 9, 100):
            for tool, words in ((0, (0, 0)), (1, ()), (2, (0,))):
                self.check((tool, words, 0, 1, None, (), False, ("t", place)), False)
        # u has one instruction, and at the place -4 of f there would be a use.
        for name, place in (("u", 1), ("u", -1), ("f", -3), ("f", 3)):
            self.check((2, (0,), 0, 1, None, (), False, (name, place)), False)

    def test_just_the_places_at_which_the_tool_is_used(self):
        points = {0: [("t", 1), ("t", 6)], 1: [("t", 2)], 2: [("f", 0), ("t", 4)]}
        for name in ("f", "t", "u"):
            for place in range(8):
                for tool, words in ((0, (0, 0)), (1, ()), (2, (0,))):
                    use = (tool, words, 0, 1, None, (), False, (name, place))
                    self.check(use, (name, place) in points[tool])

    def test_without_policies(self):
        system = read_system(HEAD + "end")
        self.check((1, (), 0, 0, None, (), False, ("t", 2)), True, system)
        self.check((0, (2, 1), 5, 0, None, (), False, ("t", 1)), True, system)
        self.check((1, (), 0, 0, None, (), True, ("t", 2)), False, system)
        self.check((1, (), 0, 0, 0, (), False, ("t", 2)), False, system)
        self.check((1, (), 0, 0, None, (0,), False, ("t", 2)), False, system)
        for policy in (1, 2, -1):
            self.check((1, (), 0, policy, None, (), False, ("t", 2)), False, system)

    def test_words_and_channels_are_not_looked_for(self):
        self.check((0, (7, 1), 0, 0, 1, (0, 0, 0), False, ("t", 1)), True)
        self.check((0, (7, 9), 0, 0, None, (0, 0, 0), False, ("t", 1)), True)
        self.check((0, (0, 9), 0, 0, 0, (0, 0, 0), True, ("t", 1)), True)
        self.check((2, (50,), 56, 2, 0, (0, 0, 0), True, ("t", 4)), True)
        self.check((1, (), 8, 0, None, (0, 0, 0), False, ("t", 2)), True)
        self.check((1, (), 8, 0, 2, (0, 0, 0), True, ("t", 2)), False)

    def test_a_system_without_tools(self):
        system = read_system("system task t end body t begin end policy end end")
        self.check((0, (), 0, 0, None, (), False, ("t", 0)), False, system)

    def test_the_uses_that_a_host_tells(self):
        host = Host(self.system, False)
        for _ in range(2):
            host.play([("take", 0), ("go", 1)])
            while not host.at_rest():
                host.choose(("go", 0))
            host.choose(("turn",))
        uses = host.uses()
        self.assertEqual(len(uses), 8)
        self.assertEqual([use[3] for use in uses], [0, 0, 0, 0, 1, 1, 1, 1])
        for use in uses:
            self.check(use, True)
            self.check(changed(use, 4, 5), False)
            self.check(changed(use, 7, ("u", 0)), False)

    def test_each_use_is_taken_for_the_system_of_its_time(self):
        host = Host(self.system, False)
        host.play([("take", 0), ("go", 1), ("go", 0)])
        old = host.uses()
        self.check(old[0], True)
        while not host.at_rest():
            host.choose(("go", 0))
        host.edit("edit body t begin do q with end end end")
        host.play([("take", 0), ("go", 0)])
        new = host.uses()[-1]
        self.assertEqual(new[7], ("t", 0))
        self.check(new, True, host.system)
        self.check(new, False)
        self.check(old[0], False, host.system)


if __name__ == "__main__":
    unittest.main()

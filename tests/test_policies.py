"""Points [13] to [15]: nobodyspeaks/policies.py."""

import unittest

from samples import EMPTY, FULL

from nobodyspeaks import policies
from nobodyspeaks.policies import decide, first_ground
from nobodyspeaks.reading import read_system

HEAD = (
    "system domain d a b c end domain e m n end channel c0 channel c1 channel c2 channel c3 channel c4 channel c5 "
    "tool o d e end tool q end tool h d end "
)


def policy(*rules):
    return read_system(HEAD + "policy " + " ".join(rules) + " end end")


class FirstGroundTest(unittest.TestCase):
    def check(self, text, expected):
        system = read_system(text)
        ground = first_ground(system)
        self.assertEqual(ground, expected)
        self.assertIs(type(ground), tuple)
        self.assertIs(type(ground[0]), tuple)
        self.assertIs(type(ground[2]), tuple)
        self.assertTrue(all(type(counts) is tuple for counts in ground[2]))
        self.assertEqual(system.text(), text)

    def test_without_cells_and_policies(self):
        self.check(EMPTY, ((), 0, ()))

    def test_cells(self):
        self.check("system cell i text end", (((0, 0),), 0, ()))
        self.check("system domain d a b end cell i text cell j d cell k d end", (((0, 0),) * 3, 0, ()))

    def test_counts(self):
        self.check("system policy end end", ((), 0, ((),)))
        self.check("system policy end policy end policy end end", ((), 0, ((), (), ())))
        self.check("system tool q end policy allow q anyone always end policy end "
                   "policy deny q nobody 4 allow q anyone 1 end end", ((), 0, ((0,), (), (0, 0))))
        self.check(FULL, (((0, 0), (0, 0)), 0, ((0, 0, 0, 0, 0, 0), ())))

    def test_interface(self):
        self.assertEqual(policies.first_ground(system=read_system(EMPTY)), ((), 0, ()))
        self.assertEqual(first_ground.__module__, "nobodyspeaks.policies")
        self.assertEqual(decide.__module__, "nobodyspeaks.policies")


class DecideTest(unittest.TestCase):
    def check(self, system, counts, tool, words, mark, expected, number=0):
        text = system.text()
        told = decide(system, number, counts, tool, words, mark)
        self.assertEqual(told, expected)
        self.assertIs(type(told), tuple)
        self.assertIs(type(told[1]), bool)
        self.assertEqual(system.text(), text)

    def test_interface(self):
        system = policy("allow q anyone always")
        self.assertEqual(decide(system=system, policy=0, counts=(0,), tool=1, words=(), mark=0), (0, True))

    def test_allow_and_deny(self):
        self.check(policy("allow q anyone always"), (0,), 1, (), 0, (0, True))
        self.check(policy("deny q anyone always"), (0,), 1, (), 0, (0, False))

    def test_no_rules(self):
        self.check(policy(), (), 1, (), 0, (None, False))

    def test_no_such_policy(self):
        system = policy("allow q anyone always")
        for number in (1, 2, 7):
            self.check(system, (0,), 1, (), 0, (None, False), number)
            self.check(system, (), 1, (), 0, (None, False), number)
        self.check(read_system(EMPTY), (), 0, (), 0, (None, False))
        self.check(read_system(HEAD + "end"), (), 1, (), 0, (None, False))

    def test_the_policy_is_the_one_told(self):
        system = read_system(HEAD + "policy allow q anyone always end policy deny q anyone always end "
                             "policy deny h any anyone always allow q anyone always end end")
        self.check(system, (0,), 1, (), 0, (0, True), 0)
        self.check(system, (0,), 1, (), 0, (0, False), 1)
        self.check(system, (0, 0), 1, (), 0, (1, True), 2)
        self.check(system, (0, 0), 1, (), 0, (None, False), 3)

    def test_the_tool(self):
        system = policy("deny h a anyone always", "allow q anyone always")
        self.check(system, (0, 0), 1, (), 0, (1, True))
        self.check(system, (0, 0), 2, (0,), 0, (0, False))
        self.check(system, (0, 0), 2, (1,), 0, (None, False))
        self.check(system, (0, 0), 0, (0, 0), 0, (None, False))

    def test_words_and_any(self):
        for rule, words in (
            ("a m", [(0, 0)]), ("c n", [(2, 1)]), ("any m", [(0, 0), (1, 0), (2, 0)]), ("b any", [(1, 0), (1, 1)]),
            ("any any", [(0, 0), (0, 1), (1, 0), (1, 1), (2, 0), (2, 1)]),
        ):
            system = policy(f"allow o {rule} anyone always")
            for one in range(3):
                for two in range(2):
                    expected = (0, True) if (one, two) in words else (None, False)
                    self.check(system, (0,), 0, (one, two), 0, expected)

    def test_anyone(self):
        system = policy("allow q anyone always")
        for mark in range(64):
            self.check(system, (0,), 1, (), mark, (0, True))

    def test_nobody(self):
        system = policy("allow q nobody always")
        for mark in range(64):
            self.check(system, (0,), 1, (), mark, (None, False) if mark else (0, True))

    def test_from(self):
        for named in ([0], [5], [0, 1], [1, 3], [0, 2, 5], [1, 2, 3, 4], [0, 1, 2, 3, 4, 5]):
            row = " ".join(f"c{channel}" for channel in named)
            for shown in (row, " ".join(reversed(row.split()))):
                system = policy(f"allow q from {shown} end always")
                for mark in range(64):
                    channels = [channel for channel in range(6) if mark // 2 ** channel % 2]
                    speaks = all(channel in named for channel in channels)
                    self.check(system, (0,), 1, (), mark, (0, True) if speaks else (None, False))

    def test_some_marks(self):
        system = policy("deny q from c1 c2 end always")
        self.check(system, (0,), 1, (), 0, (0, False))
        self.check(system, (0,), 1, (), 2, (0, False))
        self.check(system, (0,), 1, (), 6, (0, False))
        self.check(system, (0,), 1, (), 7, (None, False))
        self.check(system, (0,), 1, (), 8, (None, False))

    def test_counts_below_and_at_the_number(self):
        for limit in (1, 2, 3, 4):
            system = policy(f"allow q anyone {limit}")
            for count in range(7):
                self.check(system, (count,), 1, (), 0, (0, True) if count < limit else (None, False))

    def test_always_asks_no_count(self):
        system = policy("allow q anyone always")
        for count in (0, 1, 4, 100):
            self.check(system, (count,), 1, (), 0, (0, True))

    def test_the_first_rule_that_speaks(self):
        system = policy(
            "deny h a anyone 2", "allow h any nobody 1", "deny h any from c0 end always", "allow h b anyone always",
            "deny h any anyone 4", "allow h any anyone always",
        )
        zeros = (0, 0, 0, 0, 0, 0)
        self.check(system, zeros, 2, (0,), 0, (0, False))
        self.check(system, (1, 0, 0, 0, 0, 0), 2, (0,), 0, (0, False))
        self.check(system, (2, 0, 0, 0, 0, 0), 2, (0,), 0, (1, True))
        self.check(system, (2, 1, 0, 0, 0, 0), 2, (0,), 0, (2, False))
        self.check(system, (2, 0, 0, 0, 0, 0), 2, (0,), 1, (2, False))
        self.check(system, zeros, 2, (1,), 0, (1, True))
        self.check(system, zeros, 2, (1,), 1, (2, False))
        self.check(system, zeros, 2, (1,), 2, (3, True))
        self.check(system, zeros, 2, (2,), 2, (4, False))
        self.check(system, (0, 0, 0, 0, 4, 0), 2, (2,), 3, (5, True))
        self.check(system, (0, 0, 0, 0, 3, 0), 2, (2,), 3, (4, False))

    def test_each_rule_has_its_own_count(self):
        system = policy("deny q anyone 1", "allow q anyone 3", "deny q anyone 2")
        self.check(system, (0, 3, 2), 1, (), 0, (0, False))
        self.check(system, (1, 2, 2), 1, (), 0, (1, True))
        self.check(system, (1, 3, 1), 1, (), 0, (2, False))
        self.check(system, (1, 3, 2), 1, (), 0, (None, False))


if __name__ == "__main__":
    unittest.main()

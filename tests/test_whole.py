"""What is promised over the whole program: points [1], [2], [22], [24], [31], [34], [36] and [37]."""

import os
import random
import unittest

import nobodyspeaks
from chance import Maker, come_to, targets
from samples import state

from nobodyspeaks import errors
from nobodyspeaks.covers import judge_never, make_cover
from nobodyspeaks.edits import edited, touches
from nobodyspeaks.hosts import Host, past, replay
from nobodyspeaks.lines import close, first_line, hits
from nobodyspeaks.papers import judge_use
from nobodyspeaks.reading import read_system
from nobodyspeaks.steps import begin
from nobodyspeaks.strangers import can, strangers

Q = (0, None)


def spoiled(chance, paper):
    """The paper with something left out, or with a task more often."""
    lines, nodes = list(paper[0]), list(paper[1])
    for _ in range(chance.randint(1, 3)):
        what = chance.randint(0, 3)
        at = chance.randrange(len(nodes)) if nodes else 0
        if what == 0 and lines:
            procedure = chance.choice(lines)[0][0]
            lines = [line for line in lines if line[0][0] != procedure]
        elif what == 1 and nodes:
            nodes.pop(at)
        elif what == 2 and nodes:
            nodes[at] = (nodes[at][0], tuple((task, None) for task, _ in nodes[at][1]))
        elif what == 3 and lines:
            lines.pop(chance.randrange(len(lines)))
    return lines, nodes


class WholeTest(unittest.TestCase):
    def test_uses_are_taken_for_the_system_of_their_time(self):
        many = 0
        for seed in range(60):
            maker = Maker(seed, 4)
            host = Host(read_system(maker.text()), seed % 2 == 0)
            chance = random.Random(seed)
            told = 0
            for number in range(80):
                if host.at_rest() and number % 7 == 0:
                    host.edit(maker.edit())
                if host.choices():
                    host.choose(chance.choice(host.choices()))
                for use in host.uses()[told:]:
                    self.assertIs(judge_use(host.system, use), True)
                    told += 1
            many += told
            self.assertEqual(state(replay(host.first_system, host.silent, host.journal())), state(host))
        self.assertGreater(many, 100)

    def test_journals_of_edited_hosts(self):
        for seed in range(40):
            maker = Maker(seed, 3)
            host = Host(read_system(maker.text()), False)
            chance = random.Random(seed)
            states = [state(host)]
            for _ in range(40):
                if host.at_rest() and chance.random() < 0.3:
                    host.edit(maker.edit())
                    states.append(state(host))
                elif host.choices():
                    host.choose(chance.choice(host.choices()))
                    states.append(state(host))
            for many, expected in enumerate(states):
                self.assertEqual(state(past(host, many)), expected)

    def test_lines_are_what_runs_come_to(self):
        whole = 0
        for seed in range(120):
            silent = seed % 2 == 0
            host = Host(read_system(Maker(seed, 3 + seed % 5).text()), silent)
            for place, (procedure, arguments, mark) in enumerate(host.waiting()):
                first = first_line(begin(host.system, procedure, arguments, mark), host.ground())
                lines = close(host.system, Q, silent, [first])
                if lines is not None:
                    told = {(line[2:5], line[5]) for line in lines if line[:2] == first[:2]}
                    seen, all_seen = self.come_to_by_task(host, place, 1500)
                    self.assertLessEqual(seen, told)
                    if all_seen:
                        self.assertEqual(seen, told)
                        whole += 1
        self.assertGreater(whole, 100)

    def come_to_by_task(self, host, place, most):
        """What the frame of a task that waits comes to, as lines tell it, and True if that is all."""
        begun = host.copy_of()
        begun.choose(("take", place))
        ahead = len(begun.waiting())
        states = [(begun, False)]
        known = {}
        for one, done in states:
            if one.at_rest():
                continue
            frames = one.running()
            key = (tuple(frames), one.ground(), tuple(one.waiting()), done)
            if key not in known:
                if len(known) == most:
                    break
                known[key] = (frames, ((frames[0], one.ground(), tuple(one.waiting()[ahead:])), done))
                for choice in one.choices():
                    other = one.copy_of()
                    other.choose(choice)
                    uses = other.uses()[len(one.uses()):]
                    states.append((other, done or any(hits(use, Q) for use in uses)))
        # While a function runs, the lines of the task stand at the call.
        return {told for frames, told in known.values() if len(frames) == 1}, len(known) < most

    def test_papers_that_are_taken_are_true(self):
        taken = 0
        for seed in range(80):
            system = read_system(Maker(seed, 3 + seed % 4).text())
            chance = random.Random(seed)
            silent = seed % 2 == 0
            host = Host(system, silent)
            uses, _ = come_to(host, 300)
            for target in targets(chance, 3):
                paper = make_cover(host, target, silent)
                if paper is None:
                    continue
                for one in (paper, spoiled(chance, paper), spoiled(chance, paper)):
                    if judge_never(host, target, silent, one):
                        taken += 1
                        self.assertEqual([use for use in uses if hits(use, target)], [])
                self.assertIs(judge_never(host, target, silent, paper), True)
        self.assertGreater(taken, 100)

    def test_what_can_be_brought_about_is_told(self):
        """Whatever runs of a few steps do is not told to be impossible."""
        words = {}
        for seed in range(60):
            host = Host(read_system(Maker(seed, 3).text()), False)
            for use in [use for use in come_to(host, 300)[0] if use[6]][:3]:
                told = can(host, (use[0], use[1]), False)
                self.assertIn(told[0], ("yes", "open"))
                self.assertIn(strangers(host, (use[0], use[1]))[0], ("anyway", "brought", "open"))
                words[told[0]] = words.get(told[0], 0) + 1
        self.assertGreater(words["yes"], 20)

    def test_errors(self):
        names = ["Misfit", "BadValue", "Missing", "Busy", "Refused"]
        for name in names:
            self.assertEqual(getattr(errors, name).__bases__, (errors.SpeakError,))

    def test_the_package_has_nothing_but_its_files(self):
        folder = os.path.dirname(nobodyspeaks.__file__)
        names = [name for name in os.listdir(folder) if name != "__pycache__"]
        self.assertTrue(all(name.endswith(".py") for name in names), names)


class EditedPapersTest(unittest.TestCase):
    """Point [36]."""

    def compare(self, system, text, target, silent, paper):
        """Where the edit does not touch the paper, both hosts are told the same."""
        host, other = Host(system, False), Host(system, False)
        other.edit(text)
        touched = touches(system, text, paper)
        told = judge_never(host, target, silent, paper)
        if not touched:
            self.assertIs(judge_never(other, target, silent, paper), told, (system.text(), text))
            of_edited = Host(edited(system, text), True)
            self.assertIs(judge_never(of_edited, target, silent, paper), told)
        return touched, told

    def test_by_chance(self):
        tally = {}
        for seed in range(150):
            maker = Maker(seed, 3)
            system = read_system(maker.text())
            chance = random.Random(seed)
            host = Host(system, False)
            for target in targets(chance, 2):
                paper = make_cover(host, target, False)
                if paper is not None:
                    for one in [paper] + [spoiled(chance, paper) for _ in range(4)]:
                        told = self.compare(system, maker.edit(), target, False, one)
                        tally[told] = tally.get(told, 0) + 1
        self.assertEqual(len(tally), 4)
        self.assertGreater(min(tally.values()), 10, tally)

    def test_one_by_one(self):
        text = (
            "system domain d a b end channel m tool q end tool o d end function f x d gives d function g x d gives d "
            "task t end task u x d end task v end body f x d begin return x end body g x d begin return x end "
            "body t x d s text begin read s m take x s call x f x end if x b post u x end end end "
            "body u x d begin do o x with end end body v begin do q with end end "
            "policy allow o any anyone always end start t end end"
        )
        system = read_system(text)
        paper = make_cover(Host(system, False), Q, False)
        # Other bodies, that would use q.
        bodies = {
            "f": "body f x d begin do q with end end", "g": "body g x d begin do q with end call x g x end end",
            "t": "body t y d begin do q with end end", "u": "body u x d begin post u x end post v end end",
            "v": "body v x d begin set x b do q with end end",
        }
        for names, touched in ((("g",), False), (("v",), False), (("v", "g"), False), (("f",), True), (("t",), True),
                               (("u",), True), (("g", "u"), True), ((), False)):
            edit = " ".join(["edit", *[bodies[name] for name in names], "end"])
            self.assertEqual(self.compare(system, edit, Q, False, paper), (touched, True))
        # Without the lines of f the paper is not taken, whatever f does.
        lines = [line for line in paper[0] if line[0][0] != 0]
        edit = f"edit {bodies['f']} end"
        self.assertEqual(self.compare(system, edit, Q, False, (lines, paper[1])), (False, False))
        # The edited function has more variables: its frames begin otherwise.
        edit = "edit body f x d y d begin return x end end"
        self.assertEqual(self.compare(system, edit, Q, False, (lines, paper[1])), (False, False))
        entry = (0, 0, ((1, 1), (0, 1)), 1)
        more = (lines + [first_line(entry, paper[1][0][0])], paper[1])
        self.assertEqual(self.compare(system, edit, Q, False, more), (True, False))


if __name__ == "__main__":
    unittest.main()

"""Points [28] to [32]: nobodyspeaks/covers.py. Channel m is the mark 1, channel w the mark 2."""

import random
import unittest

import plain
from chance import Maker, targets
from samples import EMPTY

from nobodyspeaks import covers
from nobodyspeaks.covers import follow_node, judge_never, lies_within, make_cover, node_of
from nobodyspeaks.errors import Busy, SpeakError
from nobodyspeaks.hosts import Host
from nobodyspeaks.lines import close, first_line
from nobodyspeaks.reading import read_system
from nobodyspeaks.steps import begin

A, B, C = [(0, ((word, 0),), 0) for word in range(3)]
A_MARKED = (0, ((0, 1),), 0)
A_DEEPER = (0, ((0, 1),), 1)
OTHER = (1, (), 0)
GROUND = (((0, 0),), 0, ((0,), ()))


class NodesTest(unittest.TestCase):
    def test_interface(self):
        for name in ("node_of", "lies_within", "follow_node", "judge_never", "make_cover"):
            self.assertEqual(getattr(covers, name).__module__, "nobodyspeaks.covers")
        node = covers.node_of(ground=GROUND, tasks=[A])
        self.assertIs(covers.lies_within(one=node, two=node), True)
        host = Host(read_system(EMPTY), False)
        paper = covers.make_cover(host=host, target=(0, None), silent=False)
        self.assertEqual(covers.follow_node(system=host.system, lines=[], node=(((), 0, ()), ())), [])
        self.assertIs(covers.judge_never(host=host, target=(0, None), silent=False, paper=paper), True)
        self.assertIs(type(paper), tuple)
        self.assertEqual([type(row) for row in paper], [list, list])

    def check_node(self, tasks, expected):
        copied = list(tasks)
        node = node_of(GROUND, tasks)
        self.assertEqual(node, (GROUND, expected))
        self.assertIs(type(node[1]), tuple)
        self.assertTrue(all(type(pair) is tuple for pair in node[1]))
        self.assertEqual(tasks, copied)

    def test_node_of(self):
        self.check_node([], ())
        self.check_node([A], ((A, 1),))
        self.check_node([A, B], ((A, 1), (B, 1)))
        self.check_node([B, A], ((B, 1), (A, 1)))
        self.check_node([A, A], ((A, 2),))
        self.check_node([B, A, C, A, B, A, A], ((B, 2), (A, 4), (C, 1)))
        self.check_node([A, A_MARKED, A_DEEPER, OTHER, A], ((A, 2), (A_MARKED, 1), (A_DEEPER, 1), (OTHER, 1)))
        self.check_node([A] * 40, ((A, 40),))

    def check_within(self, one, two, expected):
        self.assertIs(lies_within((GROUND, one), (GROUND, two)), expected, (one, two))

    def test_lies_within(self):
        self.check_within((), (), True)
        self.check_within((), ((A, 1),), True)
        self.check_within(((A, 1),), (), False)
        for one in range(1, 5):
            for two in range(1, 5):
                self.check_within(((A, one),), ((A, two),), one <= two)
                self.check_within(((A, one),), ((B, 9), (A, two)), one <= two)
                self.check_within(((B, one), (A, one)), ((A, two), (B, two)), one <= two)
                self.check_within(((B, one), (A, one)), ((A, two), (B, 4)), one <= two)
                self.check_within(((B, one), (A, one)), ((A, 4), (B, two)), one <= two)

    def test_other_tasks(self):
        for other in (B, A_MARKED, A_DEEPER, OTHER):
            self.check_within(((A, 1),), ((other, 1),), False)
            self.check_within(((A, 1),), ((other, None),), False)
            self.check_within(((A, 1), (other, 1)), ((A, 1),), False)
            self.check_within(((A, 1),), ((other, 1), (A, 1)), True)

    def test_any_number_of_times(self):
        for many in (1, 2, 100):
            self.check_within(((A, many),), ((A, None),), True)
            self.check_within(((A, None),), ((A, many),), False)
        self.check_within(((A, None),), ((A, None),), True)
        self.check_within(((A, None),), (), False)
        self.check_within((), ((A, None),), True)
        self.check_within(((A, 5), (B, None)), ((B, None), (A, None)), True)
        self.check_within(((A, 5), (B, None)), ((B, 7), (A, None)), False)

    def test_other_grounds(self):
        for ground in ((((1, 0),), 0, ((0,), ())), (((0, 1),), 0, ((0,), ())), (((0, 0),), 1, ((0,), ())),
                       (((0, 0),), 0, ((1,), ()))):
            for tasks in ((), ((A, 1),)):
                self.assertIs(lies_within((GROUND, tasks), (ground, tasks)), False)
                self.assertIs(lies_within((ground, ()), (GROUND, ((A, None),))), False)
                self.assertIs(lies_within((ground, tasks), (ground, tasks)), True)


# The tasks t (0) and u (1), the function f (2). The lines that are handed in are made up: their frames end at once.
NODES_TEXT = (
    "system domain d a b c end channel m cell i d tool q end task t x d end task u end function f gives d "
    "body t x d begin set x x0 end body u begin end body f x d begin return x end "
    "policy allow q anyone 1 end policy end end"
).replace("x0", "a")


class FollowNodeTest(unittest.TestCase):
    def setUp(self):
        self.system = read_system(NODES_TEXT)
        self.turned = (((0, 0),), 1, ((0,), ()))
        self.then = (((2, 1),), 0, ((1,), ()))

    def line(self, task, place=1, ground=GROUND, then=None, posted=(), done=False):
        frame = begin(self.system, *task)
        return (frame, ground, (frame[0], place, frame[2], frame[3]), self.then if then is None else then, posted, done)

    def check(self, tasks, lines, *expected, ground=GROUND, turned=True):
        node = (ground, tuple(tasks))
        copied = list(lines)
        told = follow_node(self.system, lines, node)
        ahead = [(self.turned, tuple(tasks))] if turned else []
        self.assertEqual(told, ahead + list(expected))
        self.assertIs(type(told), list)
        self.assertEqual(lines, copied)

    def test_the_next_policy_first(self):
        self.check([], [])
        self.check([(A, 2), (B, None)], [])
        self.check([(A, 1)], [self.line(A)], (self.then, ()))
        self.check([(A, 1)], [self.line(A, ground=self.turned)], (self.then, ()), ground=self.turned, turned=False)
        self.check([(A, 1)], [], ground=self.turned, turned=False)

    def test_tasks_and_lines_in_order(self):
        other = (((1, 0),), 0, ((0,), ()))
        lines = [self.line(B), self.line(A), self.line(OTHER, 0), self.line(A, then=other)]
        self.check(
            [(A, 1), (OTHER, 1), (B, 1)], lines,
            (self.then, ((OTHER, 1), (B, 1))), (other, ((OTHER, 1), (B, 1))), (self.then, ((A, 1), (B, 1))),
            (self.then, ((A, 1), (OTHER, 1))),
        )
        self.check([(B, 1), (A, 1)], lines, (self.then, ((A, 1),)), (self.then, ((B, 1),)), (other, ((B, 1),)))

    def test_the_task_taken_off(self):
        for many, left in ((1, ()), (2, ((A, 1),)), (3, ((A, 2),)), (None, ((A, None),))):
            self.check([(A, many)], [self.line(A)], (self.then, left))
            self.check([(B, 2), (A, many), (C, None)], [self.line(A)], (self.then, ((B, 2), *left, (C, None))))

    def test_what_was_posted(self):
        self.check([(A, 1)], [self.line(A, posted=(B,))], (self.then, ((B, 1),)))
        self.check([(A, 1)], [self.line(A, posted=(B, C, B, A))], (self.then, ((B, 2), (C, 1), (A, 1))))
        self.check([(A, 1)], [self.line(A, posted=(A,))], (self.then, ((A, 1),)))
        self.check([(A, 2)], [self.line(A, posted=(A, B))], (self.then, ((A, 2), (B, 1))))
        self.check([(A, None)], [self.line(A, posted=(A, B))], (self.then, ((A, None), (B, 1))))
        self.check([(A, 1), (B, None), (C, 3)], [self.line(A, posted=(C, B, OTHER))],
                   (self.then, ((B, None), (C, 4), (OTHER, 1))))
        self.check([(A, 1), (B, 1)], [self.line(A, posted=(A,))], (self.then, ((B, 1), (A, 1))))

    def test_lines_that_are_no_answers(self):
        # Not at its end; of another ground, of another task, of another mark.
        frame = begin(self.system, *A)
        for line in (
            self.line(A, 0), self.line(A, ground=self.then), self.line(A, ground=self.turned), self.line(B),
            self.line(A_MARKED), self.line(A_DEEPER), self.line(OTHER, 0),
            ((0, 1, *frame[2:]), GROUND, (0, 1, *frame[2:]), GROUND, (), False),
        ):
            self.check([(A, 1)], [line])
            self.check([(A, 1)], [line, self.line(A)], (self.then, ()))

    def test_done_does_not_matter(self):
        self.check([(A, 1)], [self.line(A, done=True)], (self.then, ()))

    def test_a_line_that_is_told_twice(self):
        self.check([(A, 1)], [self.line(A), self.line(A)], (self.then, ()), (self.then, ()))

    def test_a_task_of_a_function(self):
        task = (2, (), 0)
        self.check([(task, 1)], [self.line(task, 0)], (self.then, ()))

    def test_tasks_that_begin_alike(self):
        one, two = (0, ((0, 0),), 1), (0, ((0, 1),), 1)
        self.check([(one, 1), (two, 1)], [self.line(one)], (self.then, ((two, 1),)), (self.then, ((one, 1),)))


# The host of this text cannot be brought to use q: no rule allows it what strangers had a hand in.
TEXT = (
    "system domain d a b end channel m channel w person p cell i d cell j text tool q end tool o d end "
    "function f x d s text gives d task t end task u x d s text end task v x d end "
    "body f x d s text begin take x s return x end "
    "body t s text x d begin read s m call x f x s end if x b post u x s end end end "
    "body u x d s text begin do q with s end end "
    "body v x d begin do o x with end end "
    "policy allow q nobody always allow o b anyone 1 end policy allow o a anyone 2 end "
    "start t end start v b end end"
)
Q = (0, None)


def closed(system, lines):
    """The lines with all that follows them, however many they are."""
    found = list(lines)
    ahead = 0
    while len(found) > ahead:
        ahead = len(found)
        for line in list(found):
            for other in plain.following(system, Q, False, line, found):
                if other not in found:
                    found.append(other)
    return found


class JudgeTest(unittest.TestCase):
    def setUp(self):
        self.system = read_system(TEXT)
        self.host = Host(self.system, False)
        self.paper = make_cover(self.host, Q, False)
        self.lines, self.nodes = self.paper

    def judge(self, lines, nodes, target=Q, silent=False, host=None):
        copied = (list(lines), list(nodes))
        told = judge_never(self.host if host is None else host, target, silent, (lines, nodes))
        self.assertIs(type(told), bool)
        self.assertEqual((lines, nodes), copied)
        return told

    def test_a_paper_that_is_taken(self):
        self.assertIs(self.judge(self.lines, self.nodes), True)
        self.assertGreater(len(self.lines), 20)
        self.assertGreater(len(self.nodes), 5)

    def test_turned_round(self):
        self.assertIs(self.judge(self.lines[::-1], self.nodes[::-1]), True)
        chance = random.Random(1)
        for _ in range(5):
            lines, nodes = list(self.lines), list(self.nodes)
            chance.shuffle(lines)
            chance.shuffle(nodes)
            self.assertIs(self.judge(lines, nodes), True)
            self.assertIs(self.judge(lines + lines[:3], nodes + nodes[:2]), True)

    def test_another_target(self):
        for target, expected in (((0, ()), True), ((1, None), False), ((1, (0,)), True), ((1, (1,)), False)):
            self.assertIs(self.judge(self.lines, self.nodes, target), expected, target)

    def test_each_line_and_each_node_is_needed(self):
        for at in range(len(self.lines)):
            self.assertIs(self.judge(self.lines[:at] + self.lines[at + 1:], self.nodes), False, self.lines[at])
        for at in range(len(self.nodes)):
            self.assertIs(self.judge(self.lines, self.nodes[:at] + self.nodes[at + 1:]), False, self.nodes[at])

    def test_nothing(self):
        self.assertIs(self.judge([], []), False)
        self.assertIs(self.judge([], self.nodes), False)
        self.assertIs(self.judge(self.lines, []), False)

    def test_without_tasks_and_policies(self):
        host = Host(read_system("system task t end body t begin end end"), False)
        self.assertIs(self.judge([], [(((), 0, ()), ())], host=host), True)
        self.assertIs(self.judge([], [], host=host), False)
        # A policy is next: its node must be there.
        host = Host(read_system("system policy end policy end end"), False)
        one, two = (((), 0, ((), ())), ()), (((), 1, ((), ())), ())
        self.assertIs(self.judge([], [one], host=host), False)
        self.assertIs(self.judge([], [two], host=host), False)
        self.assertIs(self.judge([], [one, two], host=host), True)

    def test_the_lines_are_closed(self):
        # A line more, of which something follows that is not there.
        frame = begin(self.system, 2, ((0, 0), (0, 0)), 2)
        ground = self.nodes[0][0]
        line = first_line(frame, (((1, 2), (1, 2)), *ground[1:]))
        self.assertNotIn(line, self.lines)
        self.assertIs(self.judge([*self.lines, line], self.nodes), False)
        self.assertIs(self.judge(close(self.system, Q, False, [*self.lines, line]), self.nodes), True)
        self.assertIs(self.judge([*self.lines, close(self.system, Q, False, [line])[1]], self.nodes), True)
        # The limits of closing are not those of papers.
        more = [first_line(frame, (((1, mark), (1, other)), *ground[1:])) for mark in range(4) for other in range(4)]
        lines = closed(self.system, [*self.lines, *more])
        self.assertGreater(len(lines), 100)
        self.assertIs(self.judge(lines, self.nodes), True)
        self.assertIs(self.judge(lines[:-1], self.nodes), False)

    def test_no_line_is_done(self):
        many = 0
        for at in range(len(self.lines)):
            lines = list(self.lines)
            lines[at] = (*lines[at][:5], True)
            self.assertIs(self.judge(lines, self.nodes), False)
            if plain.at_its_end(self.system, lines[at]) and lines[at][0][0] != 0:
                # One more: nothing but this speaks against it.
                self.assertIs(self.judge([*self.lines, lines[at]], self.nodes), False)
                many += 1
        self.assertGreater(many, 5)

    def test_the_node_of_the_host(self):
        for choices in ([("turn",)], [("take", 1), ("go", 0), ("go", 0)], [("take", 0)] + [("go", 0)] * 6):
            host = Host(self.system, False)
            self.assertEqual(host.play(choices), len(choices))
            self.assertIs(host.at_rest(), True)
            # What can be come to is covered.
            self.assertIs(self.judge(self.lines, self.nodes, host=host), True)
        twice = Host(read_system(TEXT.replace("start v b", "start t end start v b")), False)
        self.assertIs(self.judge(self.lines, self.nodes, host=twice), False)
        other = Host(read_system(TEXT.replace("start v b", "start v a")), False)
        self.assertIs(self.judge(self.lines, self.nodes, host=other), False)

    def test_more_often_than_needed(self):
        for more in (2, 5, None):
            node = (self.nodes[0][0], ((self.nodes[0][1][0][0], more), *self.nodes[0][1][1:]))
            self.assertIs(self.judge(self.lines, [node, *self.nodes[1:]]), False)
        # With all tasks any number of times it is taken.
        nodes = [(ground, tuple((task, None) for task, _ in tasks)) for ground, tasks in self.nodes]
        self.assertIs(self.judge(self.lines, nodes), self.plainly(self.lines, nodes))

    def plainly(self, lines, nodes, target=Q, silent=False):
        host = self.host
        return plain.judged(host.system, host.ground(), host.waiting(), target, silent, (lines, nodes))

    def test_the_first_line_of_each_task_of_each_node(self):
        node = (self.nodes[0][0], (*self.nodes[0][1], ((2, ((1, 0), (0, 2)), 0), 1)))
        self.assertIs(self.judge(self.lines, [*self.nodes, node]), False)

    def test_silence(self):
        paper = make_cover(self.host, Q, True)
        self.assertIs(self.judge(*paper, silent=True), True)
        self.assertIs(self.judge(*paper, silent=False), False)
        # Whether the host itself is silent is not asked.
        silent_host = Host(self.system, True)
        self.assertIs(self.judge(*paper, silent=True, host=silent_host), True)
        self.assertIs(self.judge(*paper, silent=False, host=silent_host), False)
        self.assertIs(self.judge(self.lines, self.nodes, host=silent_host), True)
        # What is taken for a world that is not silent is taken for a silent one.
        self.assertIs(self.judge(self.lines, self.nodes, silent=True), True)

    def test_busy_ahead_of_all_else(self):
        host = Host(self.system, False)
        host.play([("take", 0)])
        for paper in (self.paper, ([], []), ([((9, 9, (), 9), (), (9, 9, (), 9), (), (), True)], [])):
            for target in (Q, (9, None)):
                with self.assertRaises(SpeakError) as caught:
                    judge_never(host, target, False, paper)
                self.assertIs(type(caught.exception), Busy)
        with self.assertRaises(Busy):
            make_cover(host, Q, False)

    def test_the_host_stays_as_it_is(self):
        ahead = (self.host.ground(), self.host.waiting(), self.host.journal(), self.system.text())
        self.judge(self.lines, self.nodes)
        self.judge(self.lines, self.nodes[1:])
        make_cover(self.host, Q, True)
        self.assertEqual(ahead, (self.host.ground(), self.host.waiting(), self.host.journal(), self.system.text()))

    def test_by_chance(self):
        """Papers and what is left of them when something is taken out or changed."""
        taken = refused = 0
        for seed in range(60):
            system = read_system(Maker(seed, 4).text())
            host = Host(system, False)
            chance = random.Random(seed)
            for target in targets(chance, 2):
                paper = make_cover(host, target, False)
                if paper is None:
                    continue
                for _ in range(6):
                    lines, nodes = self.spoiled(chance, *paper)
                    expected = plain.judged(system, host.ground(), host.waiting(), target, False, (lines, nodes))
                    self.assertIs(self.judge(lines, nodes, target, host=host), expected)
                    taken += expected
                    refused += not expected
        self.assertGreater(min(taken, refused), 50)

    def spoiled(self, chance, lines, nodes):
        lines, nodes = list(lines), list(nodes)
        sort = chance.randint(0, 4)
        if sort == 0 and lines:
            lines.pop(chance.randrange(len(lines)))
        elif sort == 1 and nodes:
            nodes.pop(chance.randrange(len(nodes)))
        elif sort == 2:
            at = chance.randrange(len(nodes))
            ground, tasks = nodes[at]
            nodes[at] = (ground, tuple((task, chance.choice([1, 2, None, many])) for task, many in tasks))
        elif sort == 3:
            at = chance.randrange(len(nodes))
            nodes[at] = (nodes[at][0], nodes[at][1][1:])
        else:
            nodes.append((nodes[0][0], nodes[-1][1]))
        return lines, nodes


class FitTest(unittest.TestCase):
    """Each paper here would be taken, were it not for what does not fit: the line or node in question is one more."""

    def setUp(self):
        self.system = read_system(TEXT)
        self.host = Host(self.system, False)
        self.lines, self.nodes = make_cover(self.host, Q, False)
        # A frame at its end, and a ground, that stand nowhere in the paper.
        self.frame = (1, 5, ((1, 3), (1, 3)), 3)
        self.ground = (((1, 2), (1, 3)), 1, ((0, 1), (2,)))

    def check_line(self, entry=None, start=None, frame=None, ground=None, posted=(), expected=False):
        line = (
            self.frame if entry is None else entry, self.ground if start is None else start,
            self.frame if frame is None else frame, self.ground if ground is None else ground, posted, False,
        )
        for lines in ([line, *self.lines], [*self.lines, line]):
            self.assertIs(judge_never(self.host, Q, False, (lines, self.nodes)), expected, line)

    def check_frame(self, frame, expected=False):
        self.check_line(entry=frame, expected=expected)
        self.check_line(frame=frame, expected=expected)

    def check_ground(self, ground, expected=False):
        self.check_line(start=ground, expected=expected)
        self.check_line(ground=ground, expected=expected)
        self.check_node((ground, ()), expected)

    def check_node(self, node, expected=False):
        # On the last policy's ground nothing follows a node without tasks.
        for nodes in ([node, *self.nodes], [*self.nodes, node]):
            self.assertIs(judge_never(self.host, Q, False, (self.lines, nodes)), expected, node)

    def check_task(self, task, expected=False):
        self.check_line(posted=(task,), expected=expected)
        self.check_line(posted=((1, (), 0), task), expected=expected)
        if 0 <= task[0] < 4:
            self.check_task_of_node(task, expected)
        self.check_node((self.ground, ((task, 1),)), False)

    def check_task_of_node(self, task, expected=True):
        """The line of the task's frame that begins, and all that follows it, are there."""
        line = plain.first_of(self.system, task, self.ground)
        lines = closed(self.system, [*self.lines, line])
        nodes = [*self.nodes, (self.ground, ((task, None),))]
        for node in nodes:
            lines = closed(self.system, lines + [plain.first_of(self.system, other, node[0]) for other, _ in node[1]])
            for ground, tasks in plain.following_nodes(self.system, lines, node):
                often = (ground, tuple((other, None) for other, _ in tasks))
                if not any(plain.within(often, other) for other in nodes):
                    nodes.append(often)
        self.assertIs(judge_never(self.host, Q, False, (lines, nodes)), expected, task)

    def test_what_fits(self):
        self.check_line(expected=True)
        self.check_frame((1, 5, ((0, 0), (0, 0)), 0), True)
        self.check_frame((0, 2, ((1, 3), (1, 3)), 3), True)
        self.check_frame((0, 1, ((1, 3), (1, 3)), 3), True)
        self.check_ground((((0, 0), (0, 0)), 1, ((0, 0), (0,))), True)
        self.check_node((self.ground, ()), True)
        self.check_task((2, ((1, 3), (1, 3)), 3), True)
        self.check_task((3, ((1, 3),), 3), True)
        self.check_task((1, (), 3), True)

    def test_a_procedure_that_there_is_not(self):
        for procedure in (4, 5, 100, -1):
            self.check_frame((procedure, 0, (), 0))
            self.check_frame((procedure, 3, ((0, 0), (0, 0)), 0))
            self.check_frame((procedure, 1, ((0, 0),), 0))
            self.check_task((procedure, (), 0))
            self.check_task((procedure, ((0, 0),), 0))

    def test_a_place_that_there_is_not(self):
        for procedure, places in ((0, 3), (1, 6), (2, 2), (3, 2)):
            many = len(begin(self.system, procedure, (), 0)[2])
            for place in (places, places + 1, 100, -1):
                self.check_frame((procedure, place, ((0, 0),) * many, 0))

    def test_a_word_that_there_is_not(self):
        for content in (2, 3, 100, -1):
            self.check_frame((1, 5, ((0, 0), (content, 0)), 0))
            self.check_frame((3, 1, ((content, 0),), 0))
            self.check_ground((((content, 2), (1, 3)), 1, ((0, 1), (2,))))
            self.check_task((3, ((content, 0),), 0))
            self.check_task((2, ((content, 0), (0, 0)), 0))

    def test_a_text_content_above_one(self):
        for content in (2, 3, 100, -1):
            self.check_frame((1, 5, ((content, 0), (0, 0)), 0))
            self.check_ground((((1, 2), (content, 3)), 1, ((0, 1), (2,))))
            self.check_task((2, ((0, 0), (content, 0)), 0))

    def test_a_mark_of_channels_that_there_are_not(self):
        for mark in (4, 5, 7, 8, 32, 64, -1):
            self.check_frame((1, 5, ((0, 0), (0, 0)), mark))
            self.check_frame((1, 5, ((0, mark), (0, 0)), 0))
            self.check_frame((1, 5, ((0, 0), (0, mark)), 0))
            self.check_ground((((1, mark), (1, 3)), 1, ((0, 1), (2,))))
            self.check_ground((((1, 2), (1, mark)), 1, ((0, 1), (2,))))
            self.check_task((3, ((0, mark),), 0))
            self.check_task((3, ((0, 0),), mark))
            self.check_task((2, ((0, 0), (0, mark)), 0))

    def test_a_policy_that_there_is_not(self):
        for policy in (2, 3, 100, -1):
            self.check_ground((((1, 2), (1, 3)), policy, ((0, 1), (2,))))

    def test_another_number_of_values(self):
        for many in (0, 1, 3, 4):
            self.check_frame((1, 5, ((0, 0),) * many, 0))
            self.check_frame((0, 2, ((0, 0),) * many, 0))
            self.check_ground((((0, 0),) * many, 1, ((0, 1), (2,))))
            self.check_task((2, ((0, 0),) * many, 0))
        for many in (1, 2):
            self.check_task((1, ((0, 0),) * many, 0))
        for many in (0, 2):
            self.check_task((3, ((0, 0),) * many, 0))

    def test_another_number_of_counts(self):
        cells = ((1, 2), (1, 3))
        for counts in ((), ((0, 0),), ((0, 0), (0,), ()), ((0, 0), (0,), (0,)), ((0,), (0,)), ((0, 0, 0), (0,)),
                       ((0, 0), ()), ((0, 0), (0, 0)), ((), (0, 0, 0)), ((0,), (0, 0))):
            self.check_ground((cells, 1, counts))

    def test_without_channels(self):
        system = read_system("system domain d a b end task t x d end body t x d begin end start t b end end")
        host = Host(system, False)
        frame = (0, 0, ((1, 0),), 0)
        ground = ((), 0, ())
        node = (ground, (((0, ((1, 0),), 0), 1),))
        line = (frame, ground, frame, ground, (), False)
        self.assertIs(judge_never(host, Q, False, ([line], [node])), True)
        marked = (0, 0, ((1, 1),), 1)
        self.assertIs(judge_never(host, Q, False, ([line, (marked, ground, marked, ground, (), False)], [node])), False)
        # Without policies the policy in force is 0, and there are no counts.
        for other in (((), 1, ()), ((), 0, ((),)), ((), 0, ((0,),)), (((0, 0),), 0, ())):
            self.assertIs(judge_never(host, Q, False, ([line], [node, (other, ())])), False)
        self.assertIs(judge_never(host, Q, False, ([line], [node, (ground, ())])), True)

    def test_a_task_of_any_procedure(self):
        task = (0, ((1, 3), (1, 3)), 3)
        self.check_line(posted=(task,), expected=True)
        self.check_task_of_node(task)

    def test_no_nodes_at_all(self):
        """A task with two pairs, or that waits less than once: nothing else speaks against these."""
        ground, tasks = self.nodes[0]
        task = tasks[0][0]
        self.check_node((ground, tasks), True)
        self.check_node((ground, ((task, 1),)), True)
        for others in (((task, 1), (task, 1)), ((task, 1), *tasks)):
            self.check_node((ground, others))
        host = Host(read_system("system task t end body t begin end start t end end"), False)
        lines, nodes = make_cover(host, Q, False)
        ground, ((task, many),) = nodes[0]
        for many, expected in ((1, True), (2, True), (None, True), (0, False), (-1, False)):
            self.assertIs(judge_never(host, Q, False, (lines, [*nodes, (ground, ((task, many),))])), expected)


class CoverTest(unittest.TestCase):
    def cover(self, text, target=Q, silent=False, is_silent=False):
        host = Host(read_system(text), is_silent)
        paper = make_cover(host, target, silent)
        row = (host.system, host.ground(), host.waiting(), target, silent)
        self.assertEqual(paper, plain.cover(*row))
        if paper is not None:
            self.assertIs(judge_never(host, target, silent, paper), True)
            self.assertTrue(plain.judged(*row, paper))
        return paper

    def test_the_first_node_is_the_hosts_own(self):
        lines, nodes = self.cover("system task t end body t begin end start t end start t end end")
        ground = ((), 0, ())
        task = (0, (), 0)
        self.assertEqual(nodes, [(ground, ((task, 2),))])
        self.assertEqual(lines, [((0, 0, (), 0), ground, (0, 0, (), 0), ground, (), False)])

    def test_nothing_waits(self):
        self.assertEqual(self.cover(EMPTY), ([], [(((), 0, ()), ())]))
        self.assertEqual(
            self.cover("system policy end policy end end"),
            ([], [(((), 0, ((), ())), ()), (((), 1, ((), ())), ())]),
        )

    def test_the_order_of_lines_and_nodes(self):
        text = ("system domain d a b end cell i d task t end task u end body t x d begin set x b keep i x end "
                "body u begin end policy end policy end start u end start t end start u end end")
        lines, nodes = self.cover(text)
        t, u = (0, (), 0), (1, (), 0)
        one, two = (((0, 0),), 0, ((), ())), (((0, 0),), 1, ((), ()))
        kept, kept_two = (((1, 0),), 0, ((), ())), (((1, 0),), 1, ((), ()))
        self.assertEqual(nodes, [
            (one, ((u, 2), (t, 1))), (two, ((u, 2), (t, 1))), (kept, ((u, 2),)), (kept_two, ((u, 2),)),
        ])
        frame_u, frame_t = (1, 0, (), 0), (0, 0, ((0, 0),), 0)
        behind = [(0, 1, ((1, 0),), 0), (0, 2, ((1, 0),), 0)]
        expected = [first_line(frame_u, one), first_line(frame_t, one)]
        expected += [(frame_t, one, behind[0], one, (), False), (frame_t, one, behind[1], kept, (), False)]
        expected += [first_line(frame_u, two), first_line(frame_t, two)]
        expected += [(frame_t, two, behind[0], two, (), False), (frame_t, two, behind[1], kept_two, (), False)]
        expected += [first_line(frame_u, kept), first_line(frame_u, kept_two)]
        self.assertEqual(lines, expected)

    def test_quickening(self):
        # t posts itself and u: both wait any number of times then.
        text = ("system task t end task u end body t begin post t end post u end end body u begin end start t end end")
        lines, nodes = self.cover(text)
        ground, t, u = ((), 0, ()), (0, (), 0), (1, (), 0)
        # The node that follows is (t once, u once): t is not more often than in the first one.
        self.assertEqual(nodes, [(ground, ((t, 1),)), (ground, ((t, 1), (u, None)))])
        self.assertEqual(len(lines), 4)
        lines, nodes = self.cover(text.replace("post t end post u end", "post u end post t end post t end"))
        self.assertEqual(nodes, [(ground, ((t, 1),)), (ground, ((u, None), (t, None)))])

    def test_quickening_through_the_nodes_of_which_one_was_made(self):
        # t is posted by u, and u by t: only the node two back lies within.
        text = ("system task t end task u end task v end body t begin post u end post v end end "
                "body u begin post t end end body v begin end start t end end")
        ground = ((), 0, ())
        t, u, v = [(number, (), 0) for number in range(3)]
        _, nodes = self.cover(text)
        self.assertEqual(nodes, [
            (ground, ((t, 1),)), (ground, ((u, 1), (v, 1))),
            (ground, ((v, None), (t, 1))), (ground, ((v, None), (u, 1))),
        ])

    def test_just_those_of_which_it_was_made(self):
        # A cell keeps what was done: nodes of one ground that are not each other's makers are not compared.
        text = ("system domain d a b c end cell i d task t x d end task u end body t x d begin keep i x post u end end "
                "body u begin end start t b end start t c end end")
        _, nodes = self.cover(text)
        self.assertTrue(all(many is not None for _, tasks in nodes for _, many in tasks))

    def test_a_target_that_can_be_hit(self):
        self.assertIsNone(self.cover("system tool q end task t end body t begin do q with end end "
                                     "policy allow q anyone always end start t end end"))
        self.assertIsNotNone(self.cover("system tool q end task t end body t begin do q with end end "
                                        "policy deny q anyone always end start t end end"))
        # In a world that is not silent only.
        text = ("system domain d a b end channel m tool q end task t end body t x d s text begin read s m take x s "
                "if x b do q with end end end policy allow q anyone always end start t end end")
        self.assertIsNone(self.cover(text))
        self.assertIsNotNone(self.cover(text, silent=True))
        self.assertIsNone(self.cover(text, is_silent=True))
        self.assertIsNotNone(self.cover(text, silent=True, is_silent=True))

    def test_closing_that_gives_none(self):
        posts = "post u end " * 12
        text = "system task t end task u end body t begin {} end body u begin end start t end end"
        self.assertIsNotNone(self.cover(text.format(posts)))
        self.assertIsNone(self.cover(text.format(posts + "post u end ")))
        row = "choose x from end choose y from end choose z from end"
        text = "system domain d a b c d end task t end body t x d y d z d begin {} end start t end end"
        self.assertEqual(len(self.cover(text.format(row))[0]), 85)
        self.assertIsNone(self.cover(text.format(row + " set x a")))

    def test_thirty_nodes_and_one_more(self):
        # t waits on the ground of each policy, and behind it there is a ground for each pair of words and of counts.
        counts, counts_not = "policy allow q anyone 1 end ", "policy end "
        for words, policies, nodes in (
            ((3, 3), counts * 2, 29), ((2, 3), counts_not + counts + counts_not, 30),
            ((2, 3), counts + counts_not + counts_not, 31), ((4, 4), counts_not * 2, 32),
            ((3, 4), counts + counts_not, 37),
        ):
            domains = [" ".join("abcd"[:many]) for many in words]
            use = "" if nodes == 32 else "do q with end "
            paper = self.cover(
                f"system domain d {domains[0]} end domain e {domains[1]} end cell i d cell j e tool q end task t end "
                f"body t x d y e begin {use}choose x from end keep i x choose y from end keep j y end {policies}"
                "start t end end", (1, None),
            )
            if nodes <= 30:
                self.assertEqual(len(paper[1]), nodes)
                self.assertLess(len(paper[0]), 91)
            else:
                self.assertIsNone(paper)

    def test_as_plainly_as_told(self):
        made = missing = 0
        for seed in range(100):
            text = Maker(seed, 4 + seed % 5).text()
            chance = random.Random(seed)
            for target in targets(chance, 2):
                for silent in (False, True):
                    paper = self.cover(text, target, silent)
                    made += paper is not None
                    missing += paper is None
        self.assertGreater(min(made, missing), 10)


if __name__ == "__main__":
    unittest.main()

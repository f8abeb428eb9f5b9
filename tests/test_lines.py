"""Points [25] to [27]: nobodyspeaks/lines.py. Channel m is the mark 1, channel w the mark 2."""

import random
import unittest

import plain
from chance import Maker, targets

from nobodyspeaks import lines
from nobodyspeaks.hosts import Host
from nobodyspeaks.lines import close, first_line, follow, hits
from nobodyspeaks.policies import first_ground
from nobodyspeaks.reading import read_system
from nobodyspeaks.steps import begin

# The body of the task t (2) has the statements that are tested; f (0) and g (1) are called.
HEAD = (
    "system domain d a b c end domain e y n end channel m channel w person p cell i d tool o d end tool q end "
    "function f x d gives d function g gives text task t end task u x d end "
    "body f x d s text begin {} end body g s text begin {} end body t x d z e s text r text begin {} end "
    "body u x d begin end yes p u a end policy allow o any nobody always allow q anyone 2 end policy end "
    "start t end end"
)
GROUND = (((0, 0),), 0, ((0, 0), ()))
OTHER_GROUND = (((2, 1),), 1, ((0, 1), ()))
VALUES = ((1, 0), (0, 1), (1, 1), (0, 0))
ENTRY = (2, 0, ((0, 0), (0, 0), (0, 0), (0, 0)), 0)
POSTED = ((3, ((1, 0),), 0),)
ANY_Q = (1, None)


def system_of(row, f="", g=""):
    return read_system(HEAD.format(f, g, row))


def line_at(place, values=VALUES, mark=0, ground=GROUND, posted=(), done=False):
    return (ENTRY, GROUND, (2, place, values, mark), ground, posted, done)


def changed(values, at, value):
    return values[:at] + (value,) + values[at + 1:]


class HitsTest(unittest.TestCase):
    def check(self, use, target, expected):
        self.assertIs(hits(use, target), expected)
        self.assertIs(hits((*use, ("t", 3)), target), expected)

    def test_interface(self):
        for name in ("first_line", "follow", "close", "hits"):
            self.assertEqual(getattr(lines, name).__module__, "nobodyspeaks.lines")
        self.assertIs(lines.hits(use=(0, (), 0, 0, 0, (0,), True), target=(0, None)), True)
        system = system_of("")
        line = lines.first_line(frame=ENTRY, ground=GROUND)
        row = lines.follow(system=system, target=ANY_Q, silent=False, line=line, lines=[line])
        self.assertEqual(row, [])
        self.assertIs(type(row), list)
        row = lines.close(system=system, target=ANY_Q, silent=False, lines=[line])
        self.assertEqual(row, [line])
        self.assertIs(type(row), list)

    def test_words(self):
        use = (0, (1, 2), 3, 0, 1, (0, 0), True)
        self.check(use, (0, (1, 2)), True)
        self.check(use, (0, None), True)
        for words in ((), (1,), (2, 1), (1, 1), (0, 2), (1, 2, 0)):
            self.check(use, (0, words), False)
        self.check((0, (0,), 0, 0, 0, (), True), (0, (0,)), True)
        self.check((0, (0,), 0, 0, 0, (), True), (0, (1,)), False)

    def test_another_tool(self):
        use = (1, (1,), 3, 0, 1, (0, 0), True)
        self.check(use, (1, (1,)), True)
        for tool in (0, 2, 3):
            self.check(use, (tool, (1,)), False)
            self.check(use, (tool, None), False)

    def test_a_tool_without_words(self):
        use = (2, (), 0, 0, 0, (0,), True)
        self.check(use, (2, ()), True)
        self.check(use, (2, None), True)
        self.check(use, (2, (0,)), False)
        self.check(use, (1, ()), False)

    def test_a_denied_use(self):
        for words in ((), (1,), (1, 2)):
            use = (0, words, 0, 0, None, (), False)
            self.check(use, (0, words), False)
            self.check(use, (0, None), False)
            self.check(use, (1, None), False)

    def test_mark_policy_rule_and_counts_do_not_matter(self):
        for mark, policy, rule, counts in ((0, 0, 0, (0,)), (63, 2, 5, (1, 2, 3, 4, 0, 0)), (1, 1, 1, ())):
            self.check((0, (1,), mark, policy, rule, counts, True), (0, (1,)), True)
            self.check((0, (1,), mark, policy, rule, counts, False), (0, (1,)), False)


class FirstLineTest(unittest.TestCase):
    def test_a_frame_that_begins(self):
        for frame in (ENTRY, (0, 0, (), 3), (1, 0, ((2, 1), (1, 0)), 1)):
            for ground in (GROUND, OTHER_GROUND, ((), 0, ())):
                line = first_line(frame, ground)
                self.assertEqual(line, (frame, ground, frame, ground, (), False))
                self.assertIs(type(line), tuple)
                self.assertIs(line[5], False)

    def test_of_a_task(self):
        system = system_of("")
        host = Host(system, False)
        procedure, arguments, mark = host.waiting()[0]
        frame = begin(system, procedure, arguments, mark)
        self.assertEqual(first_line(frame, host.ground()), line_at(0, ENTRY[2]))


class FollowTest(unittest.TestCase):
    def check(self, row, expected, line=None, among=(), silent=False, target=ANY_Q, f="", g=""):
        """What follows the line, for each way of having been hit ahead and of having posted ahead."""
        system = system_of(row, f, g)
        text = system.text()
        line = line_at(0) if line is None else line
        for posted in ((), POSTED, POSTED * 2):
            for done in (False, True):
                ahead = (*line[:4], posted + line[4], done)
                among_it = list(among)
                told = follow(system, target, silent, ahead, among_it)
                self.assertEqual(told, [(*other[:4], posted + other[4], done or other[5]) for other in expected])
                self.assertTrue(all(type(other) is tuple and type(other[4]) is tuple for other in told))
                self.assertTrue(all(type(other[5]) is bool for other in told))
                self.assertEqual(among_it, list(among))
        self.assertEqual(system.text(), text)

    def test_read(self):
        behind = [line_at(1, changed(VALUES, 2, (content, 2))) for content in (0, 1)]
        self.check("read s w", behind)
        self.check("read s w", behind[:1], silent=True)

    def test_choose(self):
        behind = [line_at(1, changed(VALUES, 0, (content, 1))) for content in (0, 1, 2)]
        for silent in (False, True):
            self.check("choose x from z end", behind, silent=silent)

    def test_take_and_trust(self):
        for word, mark in (("take", 1), ("trust", 0)):
            behind = [line_at(1, changed(VALUES, 1, (content, mark))) for content in (0, 1)]
            for silent in (False, True):
                self.check(f"{word} z s", behind, silent=silent)
            self.check(f"{word} z r", [line_at(1, changed(VALUES, 1, (0, 0)))])

    def test_steps_with_one_outcome(self):
        self.check("write r from x z end", [line_at(1, changed(VALUES, 3, (1, 1)))])
        self.check("set x c", [line_at(1, changed(VALUES, 0, (2, 0)))])
        self.check("copy r s", [line_at(1, changed(VALUES, 3, (1, 1)))])
        self.check("recall x i", [line_at(1, changed(VALUES, 0, (0, 0)))])
        self.check("keep i x", [line_at(1, ground=(((1, 0),), 0, ((0, 0), ())))])
        self.check("if z y end", [line_at(1, mark=1)])
        self.check("if z n end", [line_at(2, mark=1)])
        self.check("if z n end", [line_at(2, mark=2)], line_at(1, mark=2))

    def test_the_own_mark(self):
        self.check("set x c", [line_at(1, changed(VALUES, 0, (2, 2)), 2)], line_at(0, mark=2))

    def test_the_entry_and_the_start_stay(self):
        entry = (2, 0, ((0, 2), (0, 2), (0, 2), (0, 2)), 2)
        line = (entry, OTHER_GROUND, (2, 0, VALUES, 3), GROUND, (), False)
        self.check("set x c", [(*line[:2], (2, 1, changed(VALUES, 0, (2, 3)), 3), *line[3:])], line)

    def test_posting_and_asking(self):
        self.check("post u x end", [line_at(1, posted=((3, ((1, 0),), 0),))])
        self.check("post u x end", [line_at(1, posted=((3, ((1, 2),), 2),), mark=2)], line_at(0, mark=2))
        self.check("ask p u x end", [line_at(1)])
        values = changed(VALUES, 0, (0, 1))
        self.check("ask p u x end", [line_at(1, values, posted=((3, ((0, 0),), 0),))], line_at(0, values))

    def test_uses(self):
        allowed = (((0, 0),), 0, ((0, 1), ()))
        for target, hit in ((ANY_Q, True), ((1, ()), True), ((0, None), False), ((1, (0,)), False)):
            self.check("do q with end", [line_at(1, ground=allowed, done=hit)], target=target)
        for target, hit in (
            ((0, (1,)), True), ((0, None), True), ((0, (0,)), False), ((0, (2,)), False), (ANY_Q, False),
        ):
            self.check("do o x with s end", [line_at(1, done=hit)], target=target)
        # Denied, by the mark of the word, by the count, by the policy.
        values = changed(VALUES, 0, (1, 1))
        self.check("do o x with end", [line_at(1, values)], line_at(0, values), target=(0, None))
        full = (((0, 0),), 0, ((0, 2), ()))
        self.check("do q with end", [line_at(1, ground=full)], line_at(0, ground=full))
        self.check("do q with end", [line_at(1, ground=OTHER_GROUND)], line_at(0, ground=OTHER_GROUND))

    def test_an_end(self):
        for row in ("", "if x a end"):
            self.check(row, [], line_at(0 if row == "" else 2))
        line = ((0, 0, ((0, 0), (0, 0)), 0), GROUND, (0, 0, ((0, 0), (0, 0)), 0), GROUND, (), False)
        self.check("", [], line, f="return x")
        self.check("", [], (*line[:2], (0, 1, ((0, 0), (0, 0)), 0), *line[3:]), f="return x")

    def test_among_other_lines_nothing_else_follows(self):
        behind = [line_at(1, changed(VALUES, 0, (2, 0)))]
        self.check("set x c", behind, among=[line_at(0), line_at(1), first_line(ENTRY, GROUND)])


F_ENTRY = (0, 0, ((1, 0), (0, 0)), 0)
F_FIRST = first_line(F_ENTRY, GROUND)


def answer_line(content=2, mark=0, own=0, ground=GROUND, posted=(), done=False, place=0):
    """A line of f, which is at its return x, or at its end (place 1)."""
    return (F_ENTRY, GROUND, (0, place, ((content, mark), (0, 0)), own), ground, posted, done)


class CallsTest(unittest.TestCase):
    def check_call(self, among, expected, line=None, row="call x f x end", f="return x", g=""):
        system = system_of(row, f, g)
        line = line_at(0) if line is None else line
        for posted in ((), POSTED):
            for done in (False, True):
                ahead = (*line[:4], posted + line[4], done)
                among_it = list(among)
                told = follow(system, ANY_Q, False, ahead, among_it)
                # The function's own line has not the past of the line that calls.
                self.assertEqual(told[0], expected[0])
                self.assertEqual(
                    told[1:], [(*other[:4], posted + other[4], done or other[5]) for other in expected[1:]]
                )
                self.assertEqual(among_it, list(among))

    def test_no_answer(self):
        self.check_call([], [F_FIRST])
        self.check_call([line_at(0), line_at(1)], [F_FIRST])

    def test_one_answer(self):
        self.check_call([answer_line()], [F_FIRST, line_at(1, changed(VALUES, 0, (2, 0)))])
        self.check_call([answer_line(1, 1)], [F_FIRST, line_at(1, changed(VALUES, 0, (1, 1)))])
        # With the mark of what the function branched on.
        self.check_call([answer_line(1, 0, 2)], [F_FIRST, line_at(1, changed(VALUES, 0, (1, 2)), 2)])
        # At its end it answers 0 with its own mark.
        self.check_call([answer_line(2, 1, 0, place=1)], [F_FIRST, line_at(1, changed(VALUES, 0, (0, 0)))])
        self.check_call([answer_line(2, 1, 2, place=1)], [F_FIRST, line_at(1, changed(VALUES, 0, (0, 2)), 2)])

    def test_ground_posted_and_done_of_the_answer(self):
        posted = ((3, ((2, 0),), 0), (2, (), 1))
        answer = answer_line(ground=OTHER_GROUND, posted=posted, done=True)
        behind = line_at(1, changed(VALUES, 0, (2, 0)), ground=OTHER_GROUND, posted=posted, done=True)
        self.check_call([answer], [F_FIRST, behind])
        answer = answer_line(ground=OTHER_GROUND, posted=posted)
        self.check_call([answer], [F_FIRST, (*behind[:5], False)])

    def test_several_answers_in_their_order(self):
        one, two, three = answer_line(0), answer_line(2, 1), answer_line(1, 0, 2)
        behind = [line_at(1, changed(VALUES, 0, (0, 0))), line_at(1, changed(VALUES, 0, (2, 1))),
                  line_at(1, changed(VALUES, 0, (1, 2)), 2)]
        self.check_call([one, two, three], [F_FIRST, *behind])
        self.check_call([line_at(0), three, two, F_FIRST, one, line_at(1)], [
            F_FIRST, behind[2], behind[1], line_at(1, changed(VALUES, 0, (1, 0))), behind[0],
        ])

    def test_a_line_that_two_answers_lead_to_is_told_twice(self):
        # At a return of a, and at the end, which answers 0 too.
        row = [answer_line(0), answer_line(1, place=1), answer_line(2, place=1)]
        behind = line_at(1, changed(VALUES, 0, (0, 0)))
        self.check_call(row, [F_FIRST, behind, behind, behind])
        self.check_call([answer_line(), answer_line()], [F_FIRST] + [line_at(1, changed(VALUES, 0, (2, 0)))] * 2)

    def test_lines_that_do_not_answer(self):
        frame = (0, 0, ((2, 0), (0, 0)), 0)
        for entry, start in (
            ((0, 0, ((2, 0), (0, 0)), 0), GROUND), ((0, 0, ((1, 1), (0, 0)), 0), GROUND),
            ((0, 0, ((1, 0), (0, 0)), 1), GROUND), ((0, 0, ((1, 0), (1, 0)), 0), GROUND),
            ((1, 0, ((1, 0), (0, 0)), 0), GROUND), ((0, 1, ((1, 0), (0, 0)), 0), GROUND), (F_ENTRY, OTHER_GROUND),
            (F_ENTRY, (((0, 1),), 0, ((0, 0), ()))), (F_ENTRY, (((0, 0),), 1, ((0, 0), ()))),
            (F_ENTRY, (((0, 0),), 0, ((1, 0), ()))),
        ):
            self.check_call([(entry, start, frame, GROUND, (), False)], [F_FIRST])
        # Not at a return, nor at the end.
        for place in (0, 1, 2):
            self.check_call([answer_line(place=place)], [F_FIRST], f="if x a end read s m return x")
        for place in (3, 4):
            answer = answer_line(place=place)
            told = line_at(1, changed(VALUES, 0, (2 if place == 3 else 0, 0)))
            self.check_call([answer], [F_FIRST, told], f="if x a end read s m return x")

    def test_the_ground_and_the_mark_of_the_call(self):
        values = changed(VALUES, 0, (1, 1))
        line = line_at(0, values, 2, OTHER_GROUND)
        entry = (0, 0, ((1, 3), (0, 2)), 2)
        first = first_line(entry, OTHER_GROUND)
        answer = (entry, OTHER_GROUND, (0, 0, ((2, 3), (0, 2)), 2), GROUND, (), False)
        self.check_call([answer_line(), answer], [first, line_at(1, changed(VALUES, 0, (2, 3)), 2)], line)

    def test_an_answer_of_a_text(self):
        entry = (1, 0, ((0, 0),), 0)
        answer = (entry, GROUND, (1, 1, ((1, 2),), 0), GROUND, (), False)
        behind = line_at(1, changed(VALUES, 3, (1, 2)))
        self.check_call([answer], [first_line(entry, GROUND), behind], None, "call r g end", "",
                        "write s from end return s")

    def test_a_function_that_calls_itself(self):
        # The line itself is one of those of the function, but has not ended.
        body = "call x f x end return x"
        self.check_call([F_FIRST], [F_FIRST], F_FIRST, "", body)
        ended = answer_line(place=1)
        self.check_call([F_FIRST, ended], [F_FIRST, ended], F_FIRST, "", body)


class CloseTest(unittest.TestCase):
    def check(self, system, expected, handed_in=None, target=ANY_Q, silent=False):
        handed_in = [first_line(ENTRY, GROUND)] if handed_in is None else handed_in
        copied = list(handed_in)
        told = close(system, target, silent, handed_in)
        self.assertEqual(told, expected)
        self.assertEqual(plain.closed(system, target, silent, handed_in), expected)
        self.assertEqual(handed_in, copied)
        if told is not None:
            self.assertIs(type(told), list)
            self.assertIsNot(told, handed_in)
            for line in told:
                for other in follow(system, target, silent, line, told):
                    self.assertIn(other, told)
        return told

    def test_no_lines(self):
        self.check(system_of(""), [], [])

    def test_a_frame_at_its_end(self):
        line = first_line(ENTRY, GROUND)
        self.check(system_of(""), [line])

    def test_round_by_round(self):
        zeros = ENTRY[2]
        first = line_at(0, zeros)
        reads = [line_at(1, changed(zeros, 2, (content, 1))) for content in (0, 1)]
        nothing = line_at(2, changed(zeros, 2, (0, 1)))
        nothing = (*nothing[:2], (2, 2, ((0, 0), (0, 1), (0, 1), (0, 0)), 0), *nothing[3:])
        takes = [line_at(2, ((0, 0), (content, 1), (1, 1), (0, 0))) for content in (0, 1)]
        self.check(system_of("read s m take z s"), [first, *reads, nothing, *takes])
        self.check(system_of("read s m take z s"), [first, reads[0], nothing], silent=True)

    def test_each_line_once(self):
        zeros = ENTRY[2]
        # Both ways come to the same line.
        system = system_of("choose z from end if z y end set z y set x a")
        expected = [line_at(0, zeros)]
        one, two = zeros, changed(zeros, 1, (1, 0))
        expected += [line_at(1, one), line_at(1, two), line_at(2, one), line_at(3, two)]
        expected += [line_at(3, one), line_at(4, one), line_at(5, one)]
        self.check(system, expected)

    def test_several_lines_handed_in(self):
        system = system_of("set x b set x c")
        zeros = ENTRY[2]
        b, c = changed(zeros, 0, (1, 0)), changed(zeros, 0, (2, 0))
        self.check(system, [line_at(1, zeros), line_at(0, zeros), line_at(2, c), line_at(1, b)],
                   [line_at(1, zeros), line_at(0, zeros)])
        # What is there already is not laid behind again.
        self.check(system, [line_at(2, c), line_at(1, b), line_at(0, zeros)],
                   [line_at(2, c), line_at(1, b), line_at(0, zeros)])
        self.check(system, [line_at(1, b), line_at(0, zeros), line_at(2, c)], [line_at(1, b), line_at(0, zeros)])

    def test_lines_handed_in_twice_stay(self):
        system = system_of("set x b")
        first = line_at(0, ENTRY[2])
        self.check(system, [first, first, line_at(1, changed(ENTRY[2], 0, (1, 0)))], [first, first])

    def test_a_call(self):
        system = system_of("call x f x end", "read s m take x s return x")
        told = self.check(system, plain.closed(system, ANY_Q, False, [first_line(ENTRY, GROUND)]))
        entry = (0, 0, ((0, 0), (0, 0)), 0)
        self.assertEqual(told[1], first_line(entry, GROUND))
        self.assertEqual(len([line for line in told if line[0] == entry]), 7)
        # Each answer, and none twice.
        values = [line[2][2][0] for line in told if line[0] == ENTRY]
        self.assertEqual(values, [(0, 0), (0, 1), (1, 1), (2, 1)])

    def test_an_answer_among_the_lines_as_they_were_when_the_round_began(self):
        # The function is called again at place 1, when it has been answered already.
        system = system_of("call x f x end call x f x end", "return x")
        entry = (0, 0, ((0, 0), (0, 0)), 0)
        first = first_line(entry, GROUND)
        zeros = ENTRY[2]
        self.check(system, [line_at(0, zeros), first, line_at(1, zeros), line_at(2, zeros)])
        # Its first line stands in front of it here, and has ended: the first round brings the answer.
        self.check(system, [line_at(0, zeros), line_at(1, zeros), first, line_at(2, zeros)],
                   [line_at(0, zeros), line_at(1, zeros)])

    def test_functions_that_call_themselves(self):
        # It never comes back.
        system = system_of("call x f x end", "call x f x end return x")
        zeros = ENTRY[2]
        entry = (0, 0, ((0, 0), (0, 0)), 0)
        self.check(system, [line_at(0, zeros), first_line(entry, GROUND)])
        # It may.
        system = system_of("call x f x end", "choose x from end if x a call x f x end end return x")
        told = self.check(system, plain.closed(system, ANY_Q, False, [first_line(ENTRY, GROUND)]))
        answers = [line[2][2][0] for line in told if line[0] == ENTRY and line[2][1] == 1]
        self.assertEqual(sorted(answers), [(1, 0), (2, 0)])
        # Two functions that call each other.
        text = HEAD.format("", "", "call x f x end").replace("body g s text begin  end", (
            "body g s text x d begin choose x from end if x b call x f x end end write s from x end return s end"
        )).replace("body f x d s text begin  end", (
            "body f x d s text begin call s g end read s m take x s return x end"
        ))
        system = read_system(text)
        told = self.check(system, plain.closed(system, ANY_Q, False, [first_line(ENTRY, GROUND)]))
        answers = [line[2][2][0] for line in told if line[0] == ENTRY and line[2][1] == 1]
        self.assertEqual(sorted(answers), [(0, 1), (1, 1), (2, 1)])

    def test_a_closed_row_brings_nothing(self):
        system = system_of("read s m take x s if x b do q with end end call x f x end", "choose x from end return x")
        told = self.check(system, plain.closed(system, ANY_Q, False, [first_line(ENTRY, GROUND)]))
        self.check(system, told, told)
        self.assertTrue(any(line[5] for line in told))

    def of_ends(self, many):
        """So many lines at the end."""
        return [line_at(0, ground=(((0, 0),), 0, ((number, 0), ()))) for number in range(many)]

    def test_ninety_lines_handed_in(self):
        system = system_of("")
        self.check(system, self.of_ends(90), self.of_ends(90))
        self.check(system, None, self.of_ends(91))
        self.check(system, None, self.of_ends(200))
        # One that stands there twice counts twice.
        self.check(system, None, [*self.of_ends(90), self.of_ends(1)[0]])

    def test_ninety_lines_behind_a_round(self):
        system = system_of("set x b")
        for many in (1, 44, 45, 46, 60, 90):
            handed_in = self.of_ends(many)
            behind = [(*line[:2], (2, 1, changed(VALUES, 0, (1, 0)), 0), *line[3:]) for line in handed_in]
            self.check(system, handed_in + behind if many <= 45 else None, handed_in)
        # The number behind the round is asked, not each line on the way.
        system = system_of("choose x from end set x a")
        for many, there in ((15, True), (18, True), (19, False), (22, False), (23, False)):
            told = close(system, ANY_Q, False, self.of_ends(many))
            self.assertEqual(plain.closed(system, ANY_Q, False, self.of_ends(many)), told)
            self.assertIs(told is not None, there, many)
            if there:
                self.assertEqual(len(told), many * 5)

    def test_twelve_tasks_posted(self):
        many_posts = "post u x end " * 13
        for many in range(11, 15):
            posted = POSTED * many
            line = line_at(0, posted=posted)
            self.check(system_of(""), [line] if many <= 12 else None, [line])
            self.check(system_of(""), [line_at(0), line] if many <= 12 else None, [line_at(0), line])
        for many in (11, 12, 13):
            told = close(system_of("post u x end " * many), ANY_Q, False, [first_line(ENTRY, GROUND)])
            self.assertEqual(told is not None, many <= 12)
            if told is not None:
                self.assertEqual(len(told[-1][4]), many)
        self.assertIsNone(close(system_of(many_posts), ANY_Q, False, [first_line(ENTRY, GROUND)]))
        self.check(system_of("post u x end"), None, [line_at(0, posted=POSTED * 12)])
        self.check(system_of("post u x end"), None, [line_at(1, posted=POSTED * 13)])

    def test_as_plainly_as_told(self):
        seen = [0, 0, 0]
        for seed in range(120):
            system = read_system(Maker(seed, 4 + seed % 12).text())
            chance = random.Random(seed)
            for target in targets(chance, 2):
                for silent in (False, True):
                    seen[self.compare(system, target, silent, chance)] += 1
        self.assertGreater(min(seen), 10, seen)

    def compare(self, system, target, silent, chance):
        host = Host(system, False)
        handed_in = [plain.first_of(system, task, host.ground()) for task in host.waiting()]
        told = close(system, target, silent, handed_in)
        self.assertEqual(told, plain.closed(system, target, silent, handed_in))
        if told is None:
            return 0
        some = chance.sample(told, len(told) // 2)
        for line in told:
            for among in (told, some, []):
                self.assertEqual(
                    follow(system, target, silent, line, among), plain.following(system, target, silent, line, among)
                )
        self.assertEqual(close(system, target, silent, some), plain.closed(system, target, silent, some))
        return 1 if any(line[5] for line in told) else 2


if __name__ == "__main__":
    unittest.main()

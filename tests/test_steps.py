"""Points [4] and [16] to [19]: nobodyspeaks/steps.py. Marks are written as sums: channel 0 is 1, channel 5 is 32."""

import unittest

from samples import EMPTY

from nobodyspeaks import steps
from nobodyspeaks.errors import BadValue, SpeakError
from nobodyspeaks.policies import decide, first_ground
from nobodyspeaks.reading import read_system
from nobodyspeaks.steps import answered, begin, outcomes, step

# The body of t (number 1), or that of f (number 0), has the statements that are tested, and the variables
# x, y (of d), z (of e), s and r (texts): 0 to 4.
HEAD = (
    "system domain d a b c end domain e m n end "
    "channel c0 channel c1 channel c2 channel c3 channel c4 channel c5 person p0 person p1 "
    "cell i d cell j text cell k e tool o d e end tool q end tool l d d end "
    "function f x d s text gives d task t end task u w text v d v2 e end function f2 gives text "
    "body f x d s text y d z e r text begin {} end body t x d y d z e s text r text begin {} end "
    "body u w text v d v2 e begin end body f2 w text v d begin end "
)
VALUES = ((0, 1), (2, 2), (1, 4), (1, 8), (0, 16))
GROUND = (((2, 1), (1, 3), (0, 0)), 0, ())
OWN_MARKS = (0, 32, 33, 63)


def system_of(row, behind=""):
    """The system in which t has these statements."""
    return read_system(HEAD.format("", row) + behind + " end")


def frame_of(own=0, place=0, values=VALUES):
    return (1, place, values, own)


def changed(values, at, value):
    return values[:at] + (value,) + values[at + 1:]


class StepsTest(unittest.TestCase):
    def goes(self, system, frame, ground, outcome, frame_behind, ground_behind=None, posted=(), use=None):
        """The step goes on as told. What was handed in is tuples throughout, so that it could not be changed."""
        text = system.text()
        told = step(system, frame, ground, outcome)
        ground_behind = ground if ground_behind is None else ground_behind
        self.assertEqual(told, ("goes", frame_behind, ground_behind, list(posted), use))
        self.assertIs(type(told), tuple)
        self.assertIs(type(told[3]), list)
        self.check_frame(told[1])
        self.assertEqual(system.text(), text)

    def check_frame(self, frame):
        self.assertIs(type(frame), tuple)
        self.assertIs(type(frame[2]), tuple)
        self.assertTrue(all(type(value) is tuple for value in frame[2]))

    def sets(self, row, outcome, at, content, mark, values=VALUES, ground=GROUND):
        """The statement sets a variable, for whatever own mark, and goes on at the next place."""
        system = system_of(row)
        for own in OWN_MARKS:
            behind = (1, 1, changed(values, at, (content, mark | own)), own)
            self.goes(system, frame_of(own, 0, values), ground, outcome, behind)

    def has_outcomes(self, row, many, in_silence=None, values=VALUES):
        system = system_of(row)
        self.check_outcomes(system, frame_of(0, 0, values), many, many if in_silence is None else in_silence)

    def check_outcomes(self, system, frame, many, in_silence):
        self.assertEqual(outcomes(system, frame, False), many)
        self.assertEqual(outcomes(system, frame, True), in_silence)
        for outcome in range(many):
            step(system, frame, GROUND, outcome)
        for outcome in (many, many + 1, many + 10):
            with self.assertRaises(BadValue) as caught:
                step(system, frame, GROUND, outcome)
            self.assertIs(type(caught.exception), BadValue)


class BeginTest(StepsTest):
    def test_without_arguments(self):
        system = system_of("")
        self.assertEqual(begin(system, 1, (), 0), (1, 0, ((0, 0),) * 5, 0))
        self.assertEqual(begin(system, 1, (), 37), (1, 0, ((0, 37),) * 5, 37))
        self.assertEqual(begin(system, 3, (), 2), (3, 0, ((0, 2), (0, 2)), 2))

    def test_with_arguments(self):
        system = system_of("")
        for own in OWN_MARKS:
            expected = (0, 0, ((2, 4 | own), (1, 8 | own), (0, own), (0, own), (0, own)), own)
            told = begin(system, 0, ((2, 4), (1, 8)), own)
            self.assertEqual(told, expected)
            self.check_frame(told)
        self.assertEqual(begin(system, 2, ((1, 1), (0, 0), (1, 6)), 4), (2, 0, ((1, 5), (0, 4), (1, 6)), 4))

    def test_a_body_without_variables(self):
        system = read_system("system task t end body t begin end end")
        self.assertEqual(begin(system, 0, (), 1), (0, 0, (), 1))

    def test_what_is_handed_in_stays(self):
        system = system_of("")
        arguments = [(2, 4), (1, 8)]
        self.assertEqual(begin(system, 0, arguments, 32), begin(system, 0, tuple(arguments), 32))
        self.assertEqual(arguments, [(2, 4), (1, 8)])

    def test_interface(self):
        system = system_of("")
        told = begin(system=system, procedure=1, arguments=(), mark=0)
        self.assertEqual(steps.outcomes(system=system, frame=told, silent=False), 1)
        self.assertEqual(steps.step(system=system, frame=told, ground=GROUND, outcome=0), ("ends", (0, 0), 0))
        for name in ("begin", "outcomes", "step", "answered"):
            self.assertEqual(getattr(steps, name).__module__, "nobodyspeaks.steps")


class OutcomesTest(StepsTest):
    def test_read(self):
        self.has_outcomes("read s c0", 2, 1)
        self.has_outcomes("read r c5", 2, 1)

    def test_choose(self):
        self.has_outcomes("choose x from end", 3)
        self.has_outcomes("choose z from x s end", 2)
        system = read_system("system domain g h1 h2 h3 h4 end task t end body t v g begin choose v from v end end end")
        self.check_outcomes(system, (0, 0, ((3, 1),), 0), 4, 4)

    def test_take_and_trust(self):
        for word in ("take", "trust"):
            self.has_outcomes(f"{word} x s", 3)
            self.has_outcomes(f"{word} z s", 2)
            self.has_outcomes(f"{word} x r", 1)
            self.has_outcomes(f"{word} z r", 1)
            # The mark of a text tells nothing of whether it is something.
            self.has_outcomes(f"{word} x s", 1, values=changed(VALUES, 3, (0, 63)))
            self.has_outcomes(f"{word} x s", 3, values=changed(VALUES, 3, (1, 0)))

    def test_all_others_have_one(self):
        for row in ("write s from x end", "set x b", "copy x y", "keep i x", "recall x i", "if x a end",
                    "call x f y s end", "post u s x z end", "ask p0 u s x z end", "do o x z with end", ""):
            self.has_outcomes(row, 1)
        self.check_outcomes(system_of("if x a end"), frame_of(0, 1), 1, 1)
        system = read_system(HEAD.format("return x", "") + "end")
        self.check_outcomes(system, (0, 0, VALUES, 0), 1, 1)

    def test_no_other_error_and_nothing_changed(self):
        system = system_of("take x r")
        frame = frame_of()
        with self.assertRaises(SpeakError) as caught:
            step(system, frame, GROUND, 1)
        self.assertIs(type(caught.exception), BadValue)
        self.assertEqual(step(system, frame, GROUND, 0)[0], "goes")
        self.assertEqual(frame, frame_of())

    def test_at_a_later_place(self):
        system = system_of("set x a read s c1 choose z from end")
        self.check_outcomes(system, frame_of(0, 0), 1, 1)
        self.check_outcomes(system, frame_of(0, 1), 2, 1)
        self.check_outcomes(system, frame_of(0, 2), 2, 2)
        self.check_outcomes(system, frame_of(0, 3), 1, 1)


class SettingsTest(StepsTest):
    def test_read(self):
        for channel, mark in enumerate((1, 2, 4, 8, 16, 32)):
            for outcome in (0, 1):
                self.sets(f"read s c{channel}", outcome, 3, outcome, mark)
                self.sets(f"read r c{channel}", outcome, 4, outcome, mark)

    def test_choose(self):
        for outcome in (0, 1, 2):
            self.sets("choose x from end", outcome, 0, outcome, 0)
            self.sets("choose x from z end", outcome, 0, outcome, 4)
            self.sets("choose x from x z r end", outcome, 0, outcome, 1 + 4 + 16)
            self.sets("choose y from s s end", outcome, 1, outcome, 8)
        self.sets("choose z from y s end", 1, 2, 1, 2 + 8)

    def test_write(self):
        self.sets("write s from end", 0, 3, 1, 0)
        self.sets("write r from x end", 0, 4, 1, 1)
        self.sets("write r from x y z end", 0, 4, 1, 1 + 2 + 4)
        self.sets("write s from r s r end", 0, 3, 1, 8 + 16)

    def test_take(self):
        for outcome in (0, 1, 2):
            self.sets("take x s", outcome, 0, outcome, 8)
        self.sets("take y r", 0, 1, 0, 16)
        self.sets("take z s", 1, 2, 1, 8)
        self.sets("take y s", 2, 1, 2, 0, values=changed(VALUES, 3, (1, 0)))

    def test_trust(self):
        for outcome in (0, 1, 2):
            self.sets("trust x s", outcome, 0, outcome, 0)
        self.sets("trust y r", 0, 1, 0, 0)
        self.sets("trust z s", 1, 2, 1, 0)

    def test_set(self):
        for word, content in (("a", 0), ("b", 1), ("c", 2)):
            self.sets(f"set x {word}", 0, 0, content, 0)
            self.sets(f"set y {word}", 0, 1, content, 0)
        self.sets("set z n", 0, 2, 1, 0)

    def test_copy(self):
        self.sets("copy x y", 0, 0, 2, 2)
        self.sets("copy y x", 0, 1, 0, 1)
        self.sets("copy z z", 0, 2, 1, 4)
        self.sets("copy r s", 0, 4, 1, 8)

    def test_recall(self):
        self.sets("recall x i", 0, 0, 2, 1)
        self.sets("recall s j", 0, 3, 1, 3)
        self.sets("recall z k", 0, 2, 0, 0)

    def test_at_a_later_place(self):
        system = system_of("set x a copy y x set z m")
        behind = (1, 2, changed(VALUES, 1, (0, 33)), 32)
        self.goes(system, frame_of(32, 1), GROUND, 0, behind)


class KeepTest(StepsTest):
    def keeps(self, row, own, values, ground, cells):
        behind = (1, 1, values, own)
        self.goes(system_of(row), frame_of(own, 0, values), ground, 0, behind, (cells, ground[1], ground[2]))

    def test_with_an_empty_own_mark(self):
        cells = GROUND[0]
        self.keeps("keep i y", 0, VALUES, GROUND, ((2, 2), cells[1], cells[2]))
        self.keeps("keep i x", 0, VALUES, GROUND, ((0, 1), cells[1], cells[2]))
        self.keeps("keep j s", 0, VALUES, GROUND, (cells[0], (1, 8), cells[2]))
        self.keeps("keep j r", 0, VALUES, GROUND, (cells[0], (0, 16), cells[2]))
        self.keeps("keep k z", 0, VALUES, GROUND, (cells[0], cells[1], (1, 4)))
        # What the cell kept has no part in it: a cell may be clean again.
        self.keeps("keep i x", 0, changed(VALUES, 0, (1, 0)), (((2, 63), (0, 0), (0, 0)), 1, ((0,),)),
                   ((1, 0), (0, 0), (0, 0)))

    def test_with_an_own_mark_within_that_of_the_cell(self):
        for own, kept in ((4, 4), (4, 5), (4, 6), (5, 5), (32, 48), (1, 63), (63, 63)):
            for content, mark in ((1, 0), (2, 1), (0, 8), (1, 63)):
                values = changed(VALUES, 0, (content, mark))
                ground = (((2, kept), (1, 3), (0, 0)), 2, ((1, 0), ()))
                self.keeps("keep i x", own, values, ground, ((content, mark | own | kept), (1, 3), (0, 0)))

    def test_with_an_own_mark_that_is_not_within_it(self):
        for own, kept in ((4, 0), (4, 1), (5, 4), (5, 1), (32, 31), (63, 62), (3, 2)):
            for content, mark in ((1, 0), (2, 1), (0, 8), (1, 63)):
                values = changed(VALUES, 0, (content, mark))
                ground = (((2, kept), (1, 3), (0, 0)), 0, ())
                self.keeps("keep i x", own, values, ground, ground[0])

    def test_each_cell_by_its_own_mark(self):
        ground = (((2, 0), (0, 2), (1, 6)), 0, ())
        self.keeps("keep i x", 2, VALUES, ground, ground[0])
        self.keeps("keep j s", 2, VALUES, ground, ((2, 0), (1, 10), (1, 6)))
        self.keeps("keep k z", 2, VALUES, ground, ((2, 0), (0, 2), (1, 6)))


class BranchTest(StepsTest):
    def test_either_way(self):
        system = system_of("if x b set y a else set y b end")
        for own in OWN_MARKS:
            for content in (0, 1, 2):
                values = changed(VALUES, 0, (content, 5))
                place = 1 if content == 1 else 3
                self.goes(system, frame_of(own, 0, values), GROUND, 0, (1, place, values, own | 5))

    def test_of_a_clean_variable(self):
        system = system_of("if z n end")
        for own in OWN_MARKS:
            for content in (0, 1):
                values = changed(VALUES, 2, (content, 0))
                self.goes(system, frame_of(own, 0, values), GROUND, 0, (1, 1 if content else 2, values, own))

    def test_within_another_if(self):
        system = system_of("if x a if y c set x b end else set x c end")
        self.goes(system, frame_of(4, 1), GROUND, 0, (1, 2, VALUES, 6))
        self.goes(system, frame_of(4, 1, changed(VALUES, 1, (0, 0))), GROUND, 0,
                  (1, 4, changed(VALUES, 1, (0, 0)), 4))

    def test_jump(self):
        system = system_of("if x b set y a else set y b set y c end")
        for own in OWN_MARKS:
            self.goes(system, frame_of(own, 2), GROUND, 0, (1, 5, VALUES, own))
        self.goes(system_of("if x b end"), frame_of(8, 1), GROUND, 0, (1, 2, VALUES, 8))


class CallsTest(StepsTest):
    def test_the_frame_that_begins(self):
        system = system_of("set x a call x f y s end")
        for own in OWN_MARKS:
            frame = frame_of(own, 1)
            begins = (0, 0, ((2, 2 | own), (1, 8 | own), (0, own), (0, own), (0, own)), own)
            told = step(system, frame, GROUND, 0)
            self.assertEqual(told, ("calls", frame, begins))
            self.assertIs(type(told), tuple)
            self.assertEqual(frame, frame_of(own, 1))
            self.check_frame(told[2])

    def test_the_variables_are_taken_in_order(self):
        system = read_system(
            "system domain d a b c end function f v d w d u text gives d task t end "
            "body f v d w d u text begin end body t x d y d s text begin call x f y x s end call x f y y s end end end"
        )
        values = ((1, 1), (2, 2), (1, 4))
        self.assertEqual(step(system, (1, 0, values, 0), ((), 0, ()), 0)[2], (0, 0, ((2, 2), (1, 1), (1, 4)), 0))
        self.assertEqual(step(system, (1, 1, values, 8), ((), 0, ()), 0)[2], (0, 0, ((2, 10), (2, 10), (1, 12)), 8))

    def test_a_function_without_parameters(self):
        told = step(system_of("call s f2 end"), frame_of(2), GROUND, 0)
        self.assertEqual(told, ("calls", frame_of(2), (3, 0, ((0, 2), (0, 2)), 2)))

    def test_a_function_that_calls_itself(self):
        system = read_system(HEAD.format("call y f x s end", "") + "end")
        frame = (0, 0, ((1, 1), (0, 2), (0, 0), (1, 4), (1, 0)), 8)
        self.assertEqual(step(system, frame, GROUND, 0),
                         ("calls", frame, (0, 0, ((1, 9), (0, 10), (0, 8), (0, 8), (0, 8)), 8)))


class AnsweredTest(StepsTest):
    def test_what_is_set_and_the_own_mark(self):
        system = system_of("set x a call y f y s end set x b")
        for own in OWN_MARKS:
            for mark in (0, 1, 36):
                for content, one in ((0, 0), (2, 2), (1, 12)):
                    frame = frame_of(own, 1)
                    told = answered(system, frame, (content, one), mark)
                    joined = own | mark
                    self.assertEqual(told, (1, 2, changed(VALUES, 1, (content, one | joined)), joined))
                    self.assertEqual(frame, frame_of(own, 1))
                    self.check_frame(told)

    def test_a_text_as_answer(self):
        system = system_of("call r f2 end")
        self.assertEqual(answered(system, frame_of(1), (1, 2), 4), (1, 1, changed(VALUES, 4, (1, 7)), 5))
        self.assertEqual(answered(system, frame_of(0), (0, 0), 0), (1, 1, changed(VALUES, 4, (0, 0)), 0))

    def test_a_call_within_an_if(self):
        system = system_of("if x a call x f y s end else set x b end")
        self.assertEqual(answered(system, frame_of(1, 1), (2, 0), 0), (1, 2, changed(VALUES, 0, (2, 1)), 1))

    def test_interface(self):
        system = system_of("call x f y s end")
        self.assertEqual(answered(system=system, frame=frame_of(), answer=(1, 1), mark=2),
                         (1, 1, changed(VALUES, 0, (1, 3)), 2))

    def test_a_call_and_its_answer(self):
        system = read_system(HEAD.format("if x b return y end", "call x f x s end") + "end")
        frame = (1, 0, ((1, 1), (0, 0), (0, 0), (0, 4), (0, 0)), 8)
        _, waits, inner = step(system, frame, GROUND, 0)
        _, inner, _, _, _ = step(system, inner, GROUND, 0)
        self.assertEqual(inner, (0, 1, ((1, 9), (0, 12), (0, 8), (0, 8), (0, 8)), 9))
        told = step(system, inner, GROUND, 0)
        self.assertEqual(told, ("ends", (0, 9), 9))
        self.assertEqual(answered(system, waits, told[1], told[2]),
                         (1, 1, ((0, 9), (0, 0), (0, 0), (0, 4), (0, 0)), 9))


class PostTest(StepsTest):
    def test_the_task_with_its_marks(self):
        system = system_of("post u s y z end")
        for own in OWN_MARKS:
            task = (2, ((1, 8 | own), (2, 2 | own), (1, 4 | own)), own)
            self.goes(system, frame_of(own), GROUND, 0, (1, 1, VALUES, own), posted=[task])

    def test_a_task_without_arguments(self):
        system = system_of("set x a post t end")
        for own in OWN_MARKS:
            self.goes(system, frame_of(own, 1), GROUND, 0, (1, 2, VALUES, own), posted=[(1, (), own)])

    def test_the_list_is_new_and_the_task_a_tuple(self):
        system = system_of("post u s y z end")
        told = step(system, frame_of(1), GROUND, 0)
        posted = told[3]
        self.assertIs(type(posted[0]), tuple)
        self.assertIs(type(posted[0][1]), tuple)
        posted.clear()
        self.assertEqual(len(step(system, frame_of(1), GROUND, 0)[3]), 1)
        told = step(system_of("set x a"), frame_of(1), GROUND, 0)
        told[3].append("x")
        self.assertEqual(step(system_of("set x a"), frame_of(1), GROUND, 0)[3], [])


class AskTest(StepsTest):
    """The arguments are s, y, z: 1, 2, 1, that is, a text, the word c, the word n."""

    def asks(self, lines, yes, row="ask p0 u s y z end", values=VALUES):
        system = system_of(row, lines)
        for own in OWN_MARKS:
            task = (2, (values[3], (values[1][0], 0), (values[2][0], 0)), 0)
            behind = (1, 1, values, own)
            self.goes(system, frame_of(own, 0, values), GROUND, 0, behind, posted=[task] if yes else [])

    def test_no_line(self):
        self.asks("", False)

    def test_a_line_whose_pattern_fits(self):
        for pattern in ("any c n", "any any n", "any c any", "any any any"):
            self.asks(f"yes p0 u {pattern} end", True)

    def test_a_line_whose_pattern_does_not(self):
        for pattern in ("any a n", "any b n", "any c m", "any a m", "any any m", "any b any"):
            self.asks(f"yes p0 u {pattern} end", False)

    def test_a_line_of_another_person_or_of_another_task(self):
        self.asks("yes p1 u any any any end", False)
        self.asks("yes p0 t end", False)
        self.asks("yes p1 u any any any end", True, "ask p1 u s y z end")

    def test_one_of_several_lines(self):
        self.asks("yes p0 t end yes p1 u any c n end yes p0 u any a any end yes p0 u any any n end", True)
        self.asks("yes p0 u any c n end yes p0 u any c any end", True)
        self.asks("yes p0 t end yes p1 u any c n end yes p0 u any a n end yes p0 u any c m end", False)

    def test_texts_go_as_they_are(self):
        for text in ((0, 0), (0, 16), (1, 0), (1, 63)):
            self.asks("yes p0 u any c n end", True, values=changed(VALUES, 3, text))

    def test_a_task_without_arguments(self):
        system = system_of("ask p1 t end", "yes p1 t end")
        for own in OWN_MARKS:
            self.goes(system, frame_of(own), GROUND, 0, (1, 1, VALUES, own), posted=[(1, (), 0)])
        system = system_of("ask p0 t end", "yes p1 t end")
        self.goes(system, frame_of(1), GROUND, 0, (1, 1, VALUES, 1))


class DoTest(StepsTest):
    POLICIES = (
        "policy deny o a any anyone 2 allow o any any from c1 c2 end 3 deny o c n anyone always allow q nobody 1 end "
        "policy end policy allow l any c from c0 c1 c5 end always deny q anyone 4 end"
    )

    def does(self, row, own, counts, use, counts_behind, policy=0, values=VALUES):
        system = system_of(row, self.POLICIES)
        cells = GROUND[0]
        self.goes(system, frame_of(own, 0, values), (cells, policy, counts), 0, (1, 1, values, own),
                  (cells, policy, counts_behind), use=use)
        self.assertEqual(use[4::2], decide(system, policy, counts[policy] if policy < len(counts) else (), *use[:3]))

    def test_the_use_and_the_counts_ahead_and_behind(self):
        zeros = ((0, 0, 0, 0), (), (0, 0))
        self.does("do o y z with end", 0, zeros, (0, (2, 1), 6, 0, 1, (0, 0, 0, 0), True), ((0, 1, 0, 0), (), (0, 0)))
        self.does("do o x z with end", 0, zeros, (0, (0, 1), 5, 0, 0, (0, 0, 0, 0), False), ((1, 0, 0, 0), (), (0, 0)))
        one = ((1, 2, 0, 0), (), (0, 0))
        self.does("do o x z with end", 0, one, (0, (0, 1), 5, 0, 0, (1, 2, 0, 0), False), ((2, 2, 0, 0), (), (0, 0)))
        self.does("do o y z with end", 0, one, (0, (2, 1), 6, 0, 1, (1, 2, 0, 0), True), ((1, 3, 0, 0), (), (0, 0)))

    def test_a_count_that_is_used_up(self):
        counts = ((2, 3, 0, 0), (), (0, 0))
        self.does("do o x z with end", 0, counts, (0, (0, 1), 5, 0, None, (2, 3, 0, 0), False), counts)
        self.does("do o y z with end", 0, counts, (0, (2, 1), 6, 0, 2, (2, 3, 0, 0), False), counts)

    def test_the_frames_own_mark_is_joined(self):
        zeros = ((0, 0, 0, 0), (), (0, 0))
        self.does("do o y z with end", 32, zeros, (0, (2, 1), 38, 0, 2, (0, 0, 0, 0), False), zeros)
        self.does("do o y z with end", 2, zeros, (0, (2, 1), 6, 0, 1, (0, 0, 0, 0), True), ((0, 1, 0, 0), (), (0, 0)))
        self.does("do q with end", 0, zeros, (1, (), 0, 0, 3, (0, 0, 0, 0), True), ((0, 0, 0, 1), (), (0, 0)))
        self.does("do q with end", 1, zeros, (1, (), 1, 0, None, (0, 0, 0, 0), False), zeros)

    def test_a_rule_that_says_always_never_counts(self):
        zeros = ((0, 0, 0, 0), (), (0, 0))
        self.does("do l x y with end", 32, zeros, (2, (0, 2), 35, 2, 0, (0, 0), True), zeros, policy=2)
        self.does("do l y y with end", 0, zeros, (2, (2, 2), 2, 2, 0, (0, 0), True), zeros, policy=2)

    def test_the_policy_in_force_and_its_counts_alone(self):
        counts = ((1, 0, 0, 1), (), (0, 3))
        behind = ((1, 0, 0, 1), (), (0, 4))
        self.does("do q with end", 7, counts, (1, (), 7, 2, 1, (0, 3), False), behind, policy=2)
        self.does("do q with end", 7, behind, (1, (), 7, 2, None, (0, 4), False), behind, policy=2)

    def test_a_policy_that_has_no_rule_that_speaks(self):
        counts = ((1, 0, 0, 1), (), (0, 3))
        self.does("do q with end", 0, counts, (1, (), 0, 1, None, (), False), counts, policy=1)
        self.does("do l y x with end", 0, counts, (2, (2, 0), 3, 2, None, (0, 3), False), counts, policy=2)
        self.does("do l x x with end", 0, counts, (2, (0, 0), 1, 0, None, (1, 0, 0, 1), False), counts, policy=0)

    def test_without_policies(self):
        system = system_of("do o x z with end")
        self.goes(system, frame_of(8), GROUND, 0, (1, 1, VALUES, 8), use=(0, (0, 1), 13, 0, None, (), False))

    def test_texts_decide_nothing(self):
        zeros = ((0, 0, 0, 0), (), (0, 0))
        for text in ((0, 0), (1, 0), (1, 63)):
            values = changed(changed(VALUES, 3, text), 4, text)
            for row in ("do q with s end", "do q with s r end", "do q with r r end"):
                self.does(row, 0, zeros, (1, (), 0, 0, 3, (0, 0, 0, 0), True), ((0, 0, 0, 1), (), (0, 0)),
                          values=values)
            self.does("do o y z with s r end", 0, zeros, (0, (2, 1), 6, 0, 1, (0, 0, 0, 0), True),
                      ((0, 1, 0, 0), (), (0, 0)), values=values)

    def test_the_same_use_again_and_again(self):
        system = system_of("do o y z with end", self.POLICIES)
        ground = first_ground(system)
        found = []
        for _ in range(5):
            _, _, ground, _, use = step(system, frame_of(0), ground, 0)
            found.append((use[4], use[5], use[6]))
        self.assertEqual(found, [(1, (0, 0, 0, 0), True), (1, (0, 1, 0, 0), True), (1, (0, 2, 0, 0), True),
                                 (2, (0, 3, 0, 0), False), (2, (0, 3, 0, 0), False)])
        self.assertEqual(ground[2], ((0, 3, 0, 0), (), (0, 0)))


class EndsTest(StepsTest):
    def test_return(self):
        system = read_system(HEAD.format("return x return y", "") + "end")
        values = ((1, 1), (0, 8), (2, 6), (0, 0), (0, 0))
        for own in OWN_MARKS:
            for place, content, mark in ((0, 1, 1), (1, 2, 6)):
                told = step(system, (0, place, values, own), GROUND, 0)
                self.assertEqual(told, ("ends", (content, mark | own), own))
                self.assertIs(type(told), tuple)
                self.assertIs(type(told[1]), tuple)

    def test_end(self):
        system = system_of("set x b")
        for own in OWN_MARKS:
            self.assertEqual(step(system, frame_of(own, 1), GROUND, 0), ("ends", (0, own), own))
        system = read_system(HEAD.format("", "") + "end")
        for own in OWN_MARKS:
            self.assertEqual(step(system, (0, 0, VALUES, own), GROUND, 0), ("ends", (0, own), own))


class RunTest(StepsTest):
    def test_a_small_run(self):
        system = read_system(
            "system domain d no yes2 end channel mail tool pay d end task main end "
            "body main x d t text begin read t mail take x t if x yes2 do pay x with t end else do pay x with end "
            "end end "
            "policy allow pay yes2 nobody always allow pay any from mail end 1 end start main end end"
        )
        frame, ground = begin(system, 0, (), 0), first_ground(system)
        uses = []
        for outcome in (1, 1, 0, 0, 0):
            _, frame, ground, posted, use = step(system, frame, ground, outcome)
            self.assertEqual(posted, [])
            if use is not None:
                uses.append(use)
        self.assertEqual(frame, (0, 6, ((1, 1), (1, 1)), 1))
        self.assertEqual(uses, [(0, (1,), 1, 0, 1, (0, 0), True)])
        self.assertEqual(ground, ((), 0, ((0, 1),)))
        self.assertEqual(step(system, frame, ground, 0), ("ends", (0, 1), 1))

    def test_nothing_that_was_handed_in_changes(self):
        rows = ("read s c0", "choose x from y end", "write s from end", "take x s", "trust x s", "set x c", "copy x y",
                "keep i x", "recall x i", "if x a end", "call x f y s end", "post u s x z end", "ask p0 u s x z end",
                "do o x z with end", "")
        for row in rows:
            system = system_of(row, "yes p0 u any any any end policy allow o any any anyone 4 end")
            frame, ground = frame_of(0), (GROUND[0], 0, ((0,),))
            one, two = repr((frame, ground)), (system.text(), system.told(), system.code("t"))
            step(system, frame, ground, 0)
            self.assertEqual(repr((frame, ground)), one)
            self.assertEqual((system.text(), system.told(), system.code("t")), two)

    def test_an_empty_system_has_a_ground(self):
        self.assertEqual(first_ground(read_system(EMPTY)), ((), 0, ()))


if __name__ == "__main__":
    unittest.main()

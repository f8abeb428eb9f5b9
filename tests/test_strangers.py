"""Points [33] and [34]: nobodyspeaks/strangers.py. Channel m is the mark 1."""

import random
import unittest

import plain
from chance import Maker, come_to, targets
from samples import EMPTY, state

from nobodyspeaks import strangers as strangers_file
from nobodyspeaks.covers import judge_never, make_cover
from nobodyspeaks.errors import Busy, Missing, SpeakError
from nobodyspeaks.hosts import Host
from nobodyspeaks.lines import hits
from nobodyspeaks.reading import read_system
from nobodyspeaks.strangers import can, strangers, turned

# Tasks t and u and a function f, with the statements that are tested; q has no words, o has one.
HEAD = (
    "system domain d a b c end domain e y n end channel m channel w person p cell i d cell j text tool q end tool o d "
    "end tool l e d end function f x d s text gives d task t end task u x d end "
)
VARIABLES = "y d z e s text r text"
Q, O = (0, None), (1, None)
ALLOW = "policy allow q anyone always allow o any anyone always end "


def text_of(t="", u="", f="", policies=ALLOW, starts="start t end"):
    return HEAD + (
        f"body f x d s text y d z e begin {f} end body t {VARIABLES} x d begin {t} end "
        f"body u x d {VARIABLES} begin {u} end yes p u any end {policies} {starts} end"
    )


def go(*numbers):
    return [("go", number) for number in numbers]


def check_run(test, host, target, run, silent):
    """Every choice can be made, and the last one alone makes a use that hits."""
    test.assertIs(type(run), list)
    copy = host.copy_of()
    copy.silent = silent
    ahead = len(copy.uses())
    test.assertEqual(copy.play(run[:-1]), len(run) - 1)
    test.assertEqual([use for use in copy.uses()[ahead:] if hits(use, target)], [])
    ahead = len(copy.uses())
    test.assertIs(copy.choose(run[-1]), True)
    test.assertEqual(len(copy.uses()), ahead + 1)
    test.assertIs(hits(copy.uses()[-1], target), True)


class StrangersTest(unittest.TestCase):
    def can(self, text, target=Q, silent=False, choices=()):
        """What can tells, checked against what is promised of it."""
        host = Host(read_system(text), False)
        self.assertEqual(host.play(list(choices)), len(choices))
        ahead = state(host)
        told = can(host, target, silent)
        self.assertEqual(state(host), ahead)
        expected = plain.can(host, target, silent)
        self.assertIs(type(told), tuple)
        self.assertEqual(told[0], expected[0])
        if told[0] == "yes":
            self.assertEqual(len(told), 2)
            check_run(self, host, target, told[1], silent)
        else:
            self.assertEqual(told, expected)
        if told[0] == "no":
            self.assertIs(judge_never(host, target, silent, told[1]), True)
        return told

    def check_yes(self, text, run, target=Q, silent=False, choices=()):
        """For runs that are the only ones."""
        self.assertEqual(self.can(text, target, silent, choices), ("yes", run))

    def check_no(self, text, target=Q, silent=False, choices=()):
        self.assertEqual(self.can(text, target, silent, choices)[0], "no")

    def check_open(self, text, target=Q, silent=False, choices=()):
        self.assertEqual(self.can(text, target, silent, choices), ("open",))


class CanTest(StrangersTest):
    def test_interface(self):
        for name in ("can", "strangers", "turned"):
            self.assertEqual(getattr(strangers_file, name).__module__, "nobodyspeaks.strangers")
        host = Host(read_system(text_of("do q with end")), False)
        run = [("take", 0), ("go", 0)]
        self.assertEqual(strangers_file.can(host=host, target=Q, silent=True), ("yes", run))
        self.assertEqual(strangers_file.strangers(host=host, target=Q), ("anyway", run))
        self.assertEqual(strangers_file.turned(host=host, tool=0), [((), ("anyway", run))])

    def test_a_hit_in_the_first_task(self):
        self.check_yes(text_of("do q with end"), [("take", 0), ("go", 0)])
        self.check_yes(text_of("set y b set z n do o y with end do q with end"), [("take", 0), *go(0, 0, 0)], O)
        text = text_of("read s m take y s if y c do o y with end end")
        self.check_yes(text, [("take", 0), *go(1, 2, 0, 0)], (1, (2,)))
        self.check_yes(text_of("choose y from end do o y with end"), [("take", 0), *go(1, 0)], (1, (1,)))

    def test_the_run_ends_with_the_hit(self):
        self.check_yes(text_of("do q with end do q with end do q with end"), [("take", 0), ("go", 0)])

    def test_a_denied_use_is_no_hit(self):
        self.check_no(text_of("do q with end", policies=""))
        self.check_no(text_of("do q with end", policies="policy deny q anyone always end"))
        # The second one is denied, the third one allowed.
        text = text_of("do q with end do q with end do q with end",
                       policies="policy deny q anyone 2 allow q anyone always end")
        self.check_yes(text, [("take", 0), *go(0, 0, 0)])

    def test_a_hit_in_a_later_task(self):
        text = text_of("set y b", "if x c do q with end end", starts="start u a end start t end start u c end")
        self.check_yes(text, [("take", 2), *go(0, 0)])

    def test_the_first_task_that_has_one(self):
        text = text_of("set y b", "do q with end", starts="start t end start u b end start u c end")
        self.check_yes(text, [("take", 1), ("go", 0)])

    def test_a_hit_behind_a_rest(self):
        self.check_yes(text_of("set y c post u y end", "if x c do q with end end"),
                       [("take", 0), *go(0, 0, 0), ("take", 0), *go(0, 0)])
        self.check_yes(text_of("read s m take y s ask p u y end", "if x b do o x with end end"),
                       [("take", 0), *go(1, 1, 0, 0), ("take", 0), *go(0, 0)], O)
        # The rows of tasks: the one that was posted stands behind those that wait.
        text = text_of("set y c post u y end", "if x c do q with end end",
                       starts="start u a end start u b end start t end start u a end")
        self.check_yes(text, [("take", 2), *go(0, 0, 0), ("take", 3), *go(0, 0)])

    def test_a_hit_behind_several_rests(self):
        u = "recall y i if y b if x c do q with end end end if x b keep i x end"
        text = text_of("", u, starts="start u c end start u b end")
        told = self.can(text)
        self.assertEqual(told[0], "yes")
        self.assertEqual([choice for choice in told[1] if choice[0] == "take"], [("take", 1), ("take", 0)])
        u = "if x a set y b post u y end end if x b set y c post u y end end if x c do q with end end"
        told = self.can(text_of("", u, starts="start u a end"))
        self.assertEqual(len([choice for choice in told[1] if choice[0] == "take"]), 3)

    def test_a_hit_behind_a_turn(self):
        policies = "policy deny q anyone always end policy end policy allow q anyone always end"
        self.check_yes(text_of("do q with end", policies=policies), [("turn",), ("turn",), ("take", 0), ("go", 0)])
        policies = "policy deny q anyone always end policy allow q anyone always end"
        self.check_yes(text_of("do q with end", policies=policies), [("turn",), ("take", 0), ("go", 0)])
        self.check_no(text_of("do q with end", policies="policy end policy end policy deny q anyone always end"))
        # The cells are those from before the turn.
        text = text_of("set y b keep i y", "recall y i if y b do q with end end", policies=policies,
                       starts="start t end start u a end")
        told = self.can(text)
        self.assertEqual(told[0], "yes")
        self.assertIn(("turn",), told[1])

    def test_a_policy_that_is_over(self):
        policies = "policy allow q anyone always end policy end"
        self.check_yes(text_of("do q with end", policies=policies), [("take", 0), ("go", 0)])
        self.check_no(text_of("do q with end", policies=policies), choices=[("turn",)])

    def test_a_hit_behind_a_call(self):
        self.check_yes(text_of("call y f x s end do q with end", f="set x c return x"), [("take", 0), *go(0, 0, 0, 0)])
        told = self.can(text_of("read s m call y f x s end if y c do q with end end", f="take x s return x"))
        self.assertEqual(told, ("yes", [("take", 0), *go(1, 0, 2, 0, 0, 0)]))
        # Two calls, one behind the other.
        self.check_yes(text_of("call y f x s end call x f y s end do q with end"), [("take", 0), *go(0, 0, 0, 0, 0)])

    def test_a_hit_within_a_call(self):
        self.check_yes(text_of("call y f x s end", f="do q with end"), [("take", 0), *go(0, 0)])
        text = text_of("set x b call y f x s end", f="if x b do o x with end end")
        self.check_yes(text, [("take", 0), *go(0, 0, 0, 0)], O)
        # Behind a call that has ended, and within a call within a call.
        f = "if x a set x b call x f x s end end if x b set x c call x f x s end do q with end end"
        told = self.can(text_of("call y f x s end", f=f))
        self.assertEqual(told[0], "yes")
        self.assertEqual(len(told[1]), 13)

    def test_a_function_that_calls_itself(self):
        f = "choose x from end if x a call x f x s end end if x b call x f x s end do q with end end return x"
        self.assertEqual(self.can(text_of("call y f x s end", f=f))[0], "yes")
        # It never comes back: what stands behind is never done.
        f = "call x f x s end do q with end"
        self.check_no(text_of("call y f x s end do q with end", f=f))

    def test_what_a_call_posts(self):
        f = "keep i x set x b keep i x return x"
        text = text_of("call y f x s end post u y end", "recall y i if y b if x b do q with end end end", f=f)
        self.assertEqual(self.can(text)[0], "yes")

    def test_silence(self):
        text = text_of("read s m take y s if y b do q with end end")
        self.check_yes(text, [("take", 0), *go(1, 1, 0, 0)])
        self.check_no(text, silent=True)
        text = text_of("choose y from end if y b do q with end end")
        self.check_yes(text, [("take", 0), *go(1, 0, 0)], silent=True)
        # Whether the host itself is silent is not asked.
        host = Host(read_system(text_of("read s m take y s if y b do q with end end")), True)
        self.assertEqual(can(host, Q, False)[0], "yes")
        self.assertEqual(can(host, Q, True)[0], "no")

    def test_from_a_rest_on(self):
        text = text_of("choose y from end post u y end", "if x b do q with end end")
        told = self.can(text, choices=[("take", 0), *go(1, 0, 0)])
        self.assertEqual(told, ("yes", [("take", 0), *go(0, 0)]))
        self.check_no(text, choices=[("take", 0), *go(2, 0, 0)])
        # What was hit earlier does not count.
        self.check_no(text_of("do q with end"), choices=[("take", 0), *go(0, 0)])

    def test_nothing_waits(self):
        for text in (EMPTY, "system tool q end policy allow q anyone always end policy end end"):
            self.check_no(text)
        self.check_no(text_of("do q with end", starts=""))

    def test_no_though_tasks_become_ever_more(self):
        self.check_no(text_of("post t end post t end"))
        self.check_no(text_of("post t end post u x end", "post t end do o x with end"))

    def test_open_where_closing_gives_none(self):
        row = "choose x from end choose y from end choose z from end if z n read s m read r w end"
        self.check_open(text_of(row + " if y c do q with end end"))
        self.check_open(text_of("post t end " * 13))
        # More than 12 tasks on one line, but a cover of all the same is not made either.
        self.check_no(text_of("post t end " * 12))

    def test_closing_ends_the_search(self):
        much = "choose x from end choose y from end choose z from end if z n read s m read r w end"
        # A hit in a task ahead of it is told; one behind it is not come to.
        u = "do q with end"
        self.check_yes(text_of(much, u, starts="start u a end start t end"), [("take", 0), ("go", 0)])
        self.check_open(text_of(much, u, starts="start t end start u a end"))
        # At a later rest.
        u = "if x a set x b post u x end else do q with end end"
        self.check_open(text_of(much, u, starts="start u a end start t end"))

    def of_rests(self, policies):
        """o is used at the last of the rests, once policy 2 is in force."""
        return (
            "system domain d a b end domain e y n m end cell i d cell j e tool q end tool o end task t end task u end "
            "body t x d y e begin do q with end choose x from end keep i x choose y from end keep j y end "
            "body u x d y e begin recall x i recall y j if x b if y m do o with end end end end "
            f"{policies} policy allow o anyone always end start t end start u end end"
        )

    def test_thirty_rests_and_one_more(self):
        thirty = self.of_rests("policy end policy allow q anyone 1 end")
        one_more = self.of_rests("policy allow q anyone 1 end policy end")
        for text, many in ((thirty, 30), (one_more, 31)):
            host = Host(read_system(text), False)
            row = (host.system, host.ground(), host.waiting(), (1, ()), False)
            self.assertIs(plain.is_found(*row, most=many), True)
            self.assertIs(plain.is_found(*row, most=many - 1), False)
        self.assertEqual(self.can(thirty, (1, ()))[0], "yes")
        self.check_open(one_more, (1, ()))

    def test_more_rests_and_no_hit(self):
        # Though the search has ended, a cover is made.
        self.check_no(text_of("post t end post t end"), O)
        # More than thirty nodes, too.
        text = self.of_rests("policy allow q anyone 1 end policy end").replace("if y m do o", "if y m do q")
        self.check_open(text.replace("if x b", "if x a"), (1, ()))

    def test_open_with_more_than_thirty_nodes(self):
        text = (
            "system domain d a b c g end domain e y n m k end cell i d cell j e tool q end task t end "
            "body t x d y e begin choose x from end keep i x choose y from end keep j y end "
            "policy end policy end start t end end"
        )
        self.check_open(text)
        self.check_no(text.replace("y n m k", "y n m"))

    def test_lines_of_a_function_that_come_last(self):
        f = "set x b set x a " * 6 + "call x f x s end"
        t = "choose y from end if y b call x f x s end else post u y end end"
        text = text_of(t, "if x c do q with end end", f=f)
        told = self.can(text)
        self.assertEqual(told, ("yes", [("take", 0), *go(2, 0, 0, 0), ("take", 0), *go(0, 0)]))

    def test_busy(self):
        system = read_system(text_of("do q with end", "do q with end", starts="start t end start u a end"))
        for silent in (False, True):
            host = Host(system, False)
            host.play([("take", 0)])
            ahead = state(host)
            for call in (lambda: can(host, Q, silent), lambda: strangers(host, Q), lambda: turned(host, 0),
                         lambda: can(host, (9, None), silent)):
                with self.assertRaises(SpeakError) as caught:
                    call()
                self.assertIs(type(caught.exception), Busy)
            self.assertEqual(state(host), ahead)

    def test_the_shape_of_what_is_told_is_new_each_time(self):
        host = Host(read_system(text_of("do q with end", "do o x with end", starts="start t end start u a end")), False)
        for target in (Q, (1, (0,)), (1, (1,))):
            told = can(host, target, False)
            copy = can(host, target, False)
            self.assertEqual(told, copy)
            for row in (told[1] if told[0] == "no" else (told[1],)):
                row.clear()
            self.assertEqual(can(host, target, False), copy)


class FourWordsTest(StrangersTest):
    def check(self, text, word, target=Q, choices=()):
        host = Host(read_system(text), False)
        self.assertEqual(host.play(list(choices)), len(choices))
        ahead = state(host)
        told = strangers(host, target)
        self.assertEqual(state(host), ahead)
        self.assertEqual(told, self.expected(host, target))
        self.assertEqual(told[0], word)
        self.assertIs(type(told), tuple)
        return told

    def expected(self, host, target):
        silence = can(host, target, True)
        if silence[0] == "yes":
            check_run(self, host, target, silence[1], True)
            return ("anyway", silence[1])
        if silence[0] == "open":
            return ("open",)
        self.assertIs(judge_never(host, target, True, silence[1]), True)
        told = can(host, target, False)
        if told[0] == "yes":
            check_run(self, host, target, told[1], False)
            return ("brought", told[1], silence[1])
        if told[0] == "no":
            self.assertIs(judge_never(host, target, False, told[1]), True)
            return ("never", told[1])
        return ("open",)

    def test_anyway(self):
        self.assertEqual(self.check(text_of("do q with end"), "anyway"), ("anyway", [("take", 0), ("go", 0)]))
        row = "take y s if y b do q with end end choose y from end if y b do q with end end"
        told = self.check(text_of("read s m " + row), "anyway")
        self.assertEqual(told[1], [("take", 0), *go(0, 0, 0, 1, 0, 0)])

    def test_brought(self):
        text = text_of("read s m take y s if y b do q with end end")
        told = self.check(text, "brought")
        self.assertEqual(told[1], [("take", 0), *go(1, 1, 0, 0)])
        self.assertEqual(told[2], make_cover(Host(read_system(text), False), Q, True))

    def test_never(self):
        text = text_of("read s m take y s if y b do q with end end", policies="policy allow q nobody always end")
        told = self.check(text, "never")
        self.assertEqual(told[1], make_cover(Host(read_system(text), False), Q, False))
        self.assertNotEqual(told[1], make_cover(Host(read_system(text), False), Q, True))
        self.check(EMPTY, "never")

    def test_open(self):
        much = "choose x from end choose y from end choose z from end if z n read s m read r w end"
        # In silence, and though it could be brought about.
        self.assertEqual(self.check(text_of(much), "open"), ("open",))
        text = text_of(much + " if y b do q with end end")
        self.check(text, "open")
        # Open in silence, and otherwise brought about.
        text = text_of("choose x from end choose y from end choose z from end " + "write s from end " * 5,
                       "read s m take y s if y b do q with end end", starts="start u a end start t end")
        self.assertEqual(can(Host(read_system(text), False), Q, True)[0], "open")
        self.assertEqual(can(Host(read_system(text), False), Q, False)[0], "yes")
        self.check(text, "open")
        # In silence it is never; otherwise it is open.
        much = "read s m take x s take y s take z s read s w read r w"
        text = text_of(much)
        self.assertEqual(can(Host(read_system(text), False), Q, True)[0], "no")
        self.check(text, "open")
        # Found in silence alone: more lines follow where it is not silent.
        self.check(text_of(much + " do q with end"), "anyway")

    def test_of_a_silent_host(self):
        host = Host(read_system(text_of("read s m take y s if y b do q with end end")), True)
        self.assertEqual(strangers(host, Q)[0], "brought")

    def test_from_a_rest_on(self):
        text = text_of("read s m take y s post u y end", "if x c do q with end end")
        self.check(text, "brought")
        self.check(text, "never", choices=[("take", 0), *go(1, 0, 0, 0)])
        self.check(text, "anyway", choices=[("take", 0), *go(1, 2, 0, 0)])


class TurnedTest(StrangersTest):
    def turned(self, text, tool, choices=()):
        host = Host(read_system(text), False)
        host.play(list(choices))
        ahead = state(host)
        told = turned(host, tool)
        self.assertEqual(state(host), ahead)
        self.assertIs(type(told), list)
        self.assertEqual(told, [(words, strangers(host, (tool, words))) for words, _ in told])
        return [(words, word[0]) for words, word in told]

    def test_no_domains(self):
        self.assertEqual(self.turned(text_of("do q with end"), 0), [((), "anyway")])
        self.assertEqual(self.turned(text_of(""), 0), [((), "never")])

    def test_one_domain(self):
        policies = "policy allow o a anyone always allow o c anyone 1 end"
        text = text_of("read s m take y s do o y with end", policies=policies)
        self.assertEqual(self.turned(text, 1), [((0,), "anyway"), ((1,), "never"), ((2,), "brought")])

    def test_two_domains(self):
        t = "set y b read s m take z s do l z y with end choose y from end set z y if y c do l z y with end end"
        told = self.turned(text_of(t, policies="policy allow l any any anyone always end"), 2)
        self.assertEqual(told, [
            ((0, 0), "never"), ((0, 1), "anyway"), ((0, 2), "anyway"),
            ((1, 0), "never"), ((1, 1), "brought"), ((1, 2), "never"),
        ])

    def test_one_domain_twice(self):
        text = ("system domain d a b c end tool q end tool l d d end task t end body t x d y d begin set x c set y b "
                "do l x y with end end policy allow l any any anyone always end start t end end")
        told = self.turned(text, 1)
        self.assertEqual([words for words, _ in told], [(one, two) for one in range(3) for two in range(3)])
        self.assertEqual([words for words, word in told if word == "anyway"], [(2, 1)])

    def test_open(self):
        much = "choose x from end choose y from end choose z from end if z n read s m read r w end"
        self.assertEqual(self.turned(text_of(much), 1), [((0,), "open"), ((1,), "open"), ((2,), "open")])

    def test_missing_ahead_of_busy(self):
        system = read_system(text_of("do q with end"))
        for choices, error in (([], None), ([("take", 0)], Busy)):
            host = Host(system, False)
            host.play(choices)
            ahead = state(host)
            for tool in (3, 4, 100):
                with self.assertRaises(SpeakError) as caught:
                    turned(host, tool)
                self.assertIs(type(caught.exception), Missing)
            for tool in (0, 1, 2):
                if error is None:
                    turned(host, tool)
                else:
                    with self.assertRaises(SpeakError) as caught:
                        turned(host, tool)
                    self.assertIs(type(caught.exception), error)
            self.assertEqual(state(host), ahead)
        with self.assertRaises(Missing):
            turned(Host(read_system(EMPTY), False), 0)


class ChanceTest(StrangersTest):
    """Systems made by chance: what is told is true of all runs that are gone through."""

    def test_can(self):
        tally = {}
        for seed in range(60):
            text = Maker(seed, 3 + seed % 6).text()
            chance = random.Random(seed)
            for silent in (False, True):
                uses, _ = come_to(Host(read_system(text), silent), 400)
                for target in targets(chance, 3):
                    told = self.can(text, target, silent)
                    tally[told[0]] = tally.get(told[0], 0) + 1
                    if told[0] == "no":
                        self.assertFalse([use for use in uses if hits(use, target)])
        self.assertGreater(min(tally["yes"], tally["no"], tally["open"]), 10, tally)

    def test_strangers(self):
        tally = {}
        for seed in range(200, 330):
            system = read_system(Maker(seed, 3 + seed % 5).text())
            host = Host(system, False)
            # Somewhere in a run.
            chance = random.Random(seed)
            for number in range(150):
                if host.choices() and (number < seed % 9 or not host.at_rest()):
                    host.choose(chance.choice(host.choices()))
            if not host.at_rest():
                continue
            for target in targets(chance, 3):
                told = strangers(host, target)
                self.assertEqual(told, FourWordsTest.expected(self, host, target))
                tally[told[0]] = tally.get(told[0], 0) + 1
        self.assertEqual(sorted(tally), ["anyway", "brought", "never", "open"])


if __name__ == "__main__":
    unittest.main()

"""Points [13], [15], [20], [21], [35] and [37]: nobodyspeaks/hosts.py.

Channel m is the mark 1, channel w the mark 2.
"""

import random
import unittest

from chance import Maker
from samples import EMPTY, check_equal, state
from speaker import World

from nobodyspeaks import hosts
from nobodyspeaks.errors import Busy, Misfit, Missing, Refused, SpeakError
from nobodyspeaks.hosts import Host, past, replay
from nobodyspeaks.policies import first_ground
from nobodyspeaks.reading import read_system

# f (0) takes a text for a, b or c: for a it answers, for b it calls itself, for c it uses q and comes to its end.
# g (1) writes a text, keeps it, and answers it. t (2) reads, calls f, and posts or asks. u (3) uses o. v (4) keeps c.
TEXT = (
    "system domain d a b c end domain e y n end channel m channel w person p person r cell i d cell j text "
    "tool o d end tool q end "
    "function f x d s text gives d function g gives text task t end task u x d s text end task v x d y e end "
    "body f x d s text begin "
    "take x s if x b call x f x s end end if x c do q with end else return x end end "
    "body g z text x d begin write z from end recall x i keep j z return z end "
    "body t s text x d begin "
    "read s m call x f x s end if x a post u x s end else ask p u x s end end call s g end keep i x end "
    "body u x d s text begin do o x with s end end "
    "body v x d y e begin set x c keep i x end "
    "yes p u a any end "
    "policy allow o any nobody 2 deny o any from m end 1 allow q anyone always end policy end "
    "policy allow o any anyone always end "
    "start t end start v b n end start v a y end end"
)
V_FRAME = (4, 0, ((1, 0), (1, 0)), 0)


def go(*numbers):
    return [("go", number) for number in numbers]


class HostsTest(unittest.TestCase):
    def setUp(self):
        self.system = read_system(TEXT)
        self.host = Host(self.system, False)

    def played(self, *choices, silent=False):
        """A host behind these choices, each of which is made."""
        host = Host(self.system, silent)
        self.assertEqual(host.play(list(choices)), len(choices))
        return host

    def check_state(self, host, ground, waiting, running, uses, choices):
        self.assertEqual(host.ground(), ground)
        self.assertEqual(host.waiting(), waiting)
        self.assertEqual(host.running(), running)
        self.assertEqual(host.uses(), uses)
        self.assertEqual(host.choices(), choices)
        self.assertIs(host.at_rest(), running is None)

    def check_refused(self, host, choice):
        ahead = state(host)
        self.assertIs(host.choose(choice), False, choice)
        self.assertEqual(state(host), ahead)
        self.assertEqual(host.play([choice]), 0)
        self.assertEqual(state(host), ahead)


class BeginningTest(HostsTest):
    def test_interface(self):
        for name in ("choose", "play", "at_rest", "ground", "waiting", "running", "uses", "choices", "journal",
                     "copy_of", "edit"):
            self.assertIn(name, vars(Host))
        for name in ("Host", "replay", "past"):
            self.assertEqual(getattr(hosts, name).__module__, "nobodyspeaks.hosts")
        host = hosts.Host(system=self.system, silent=True)
        self.assertEqual(sorted(set(vars(host)) & {"system", "silent"}), ["silent", "system"])
        self.assertIs(host.choose(choice=("take", 0)), True)
        self.assertEqual(host.play(choices=[("go", 0)]), 1)
        again = hosts.replay(system=self.system, silent=True, journal=host.journal())
        self.assertEqual(state(again), state(host))
        self.assertEqual(hosts.past(host=host, n=0).journal(), [])
        self.assertIsNone(Host(self.system, False).edit(text="edit end"))

    def test_a_host_begins(self):
        for silent in (False, True):
            host = Host(self.system, silent)
            self.check_state(
                host, (((0, 0), (0, 0)), 0, ((0, 0, 0), (), (0,))),
                [(2, (), 0), (4, ((1, 0), (1, 0)), 0), (4, ((0, 0), (0, 0)), 0)], None, [],
                [("turn",), ("take", 0), ("take", 1), ("take", 2)],
            )
            self.assertEqual(host.ground(), first_ground(self.system))
            self.assertEqual(host.journal(), [])
            self.assertIs(host.system, self.system)
            self.assertIs(host.silent, silent)
            self.assertIs(host.at_rest(), True)

    def test_without_starts(self):
        host = Host(read_system(EMPTY), False)
        self.check_state(host, ((), 0, ()), [], None, [], [])
        host = Host(read_system("system policy end policy end end"), True)
        self.check_state(host, ((), 0, ((), ())), [], None, [], [("turn",)])

    def test_kinds(self):
        host = self.host
        self.assertIs(type(host.waiting()), list)
        self.assertIs(type(host.uses()), list)
        self.assertIs(type(host.choices()), list)
        self.assertIs(type(host.journal()), list)
        self.assertIs(type(host.ground()), tuple)
        for task in host.waiting():
            self.assertIs(type(task), tuple)
            self.assertIs(type(task[1]), tuple)
        host.choose(("take", 0))
        self.assertIs(type(host.running()), list)
        self.assertIs(type(host.play([])), int)


class ChoicesTest(HostsTest):
    def test_taking(self):
        for at in range(3):
            host = Host(self.system, False)
            waiting = host.waiting()
            self.assertIs(host.choose(("take", at)), True)
            task = waiting.pop(at)
            self.assertEqual(host.waiting(), waiting)
            self.assertEqual([frame[0] for frame in host.running()], [task[0]])
            self.assertEqual(host.journal(), [("take", at)])
            self.assertIs(host.at_rest(), False)
        self.check_state(
            self.played(("take", 1)), first_ground(self.system), [(2, (), 0), (4, ((0, 0), (0, 0)), 0)], [V_FRAME],
            [], go(0),
        )

    def test_takes_that_there_are_not(self):
        for at in (3, 4, 100, -1, -2, -3):
            self.check_refused(self.host, ("take", at))
        host = self.played(("take", 1), *go(0, 0, 0))
        for at in (2, 3, -1):
            self.check_refused(host, ("take", at))
        self.check_refused(Host(read_system(EMPTY), False), ("take", 0))

    def test_no_take_and_no_turn_while_a_frame_runs(self):
        for host in (self.played(("take", 1)), self.played(("take", 0), *go(1, 0))):
            for choice in (("take", 0), ("take", 1), ("take", 5), ("take", -1), ("turn",)):
                self.check_refused(host, choice)

    def test_goes_that_there_are_not(self):
        for number in (0, 1, 2, -1):
            self.check_refused(self.host, ("go", number))
        host = self.played(("take", 0))
        self.assertEqual(host.choices(), go(0, 1))
        for number in (2, 3, 100, -1, -2):
            self.check_refused(host, ("go", number))
        host.play(go(1, 0))
        self.assertEqual(host.choices(), go(0, 1, 2))
        for number in (3, 4, -1, -3):
            self.check_refused(host, ("go", number))
        host.play(go(1))
        self.assertEqual(host.choices(), go(0))
        self.check_refused(host, ("go", 1))

    def test_outcomes_of_silence(self):
        host = self.played(("take", 0), silent=True)
        self.assertEqual(host.choices(), go(0))
        self.check_refused(host, ("go", 1))
        host.play(go(0, 0))
        # Nothing was read, so there is nothing to be taken for a word.
        self.assertEqual(host.choices(), go(0))
        self.check_refused(host, ("go", 1))
        loud = self.played(("take", 0), *go(0, 0))
        self.assertEqual(loud.choices(), go(0))
        self.check_refused(loud, ("go", 2))

    def test_choices_of_the_judge_in_silence(self):
        system = read_system("system domain d a b c end task t end body t x d s text begin choose x from end "
                             "write s from x end take x s trust x s end start t end end")
        host = Host(system, True)
        host.play([("take", 0)])
        self.assertEqual(host.choices(), go(0, 1, 2))
        host.play(go(2, 0))
        self.assertEqual(host.choices(), go(0, 1, 2))
        self.assertIs(host.choose(("go", 2)), True)
        self.assertEqual(host.choices(), go(0, 1, 2))

    def test_turning(self):
        host = self.host
        for policy in (1, 2):
            self.assertIs(host.choose(("turn",)), True)
            self.assertEqual(host.ground(), (((0, 0), (0, 0)), policy, ((0, 0, 0), (), (0,))))
        self.assertEqual(host.journal(), [("turn",), ("turn",)])
        self.assertEqual(host.choices(), [("take", 0), ("take", 1), ("take", 2)])
        self.check_refused(host, ("turn",))
        for text in (EMPTY, "system policy end end"):
            self.check_refused(Host(read_system(text), False), ("turn",))

    def test_any_other_tuple(self):
        row = [
            ("turn", 0), ("turn", 1), ("turn", None), ("turn", "turn"), ("take",), ("go",), ("take", 0, 0),
            ("go", 0, 0),
            ("take", "0"), ("go", "0"), ("take", None), ("go", None), ("take", (0,)), ("go", [0]), ("take", {}),
            ("take", b"0"), ("stay",), ("stay", 0), ("rest",), ("", 0), ("TAKE", 0), ("Go", 0), ("send",), ("hear",),
            ("crash",), ("resume",), ("edit", "edit end"), ("edit",), ("edit", "edit end", 0), ("edit", "no"),
            ("take", 0, "more", [], (), None), ("go", 0, 1, 2, 3, 4), ("turn", ("turn",)), ("take", ("take", 0)),
        ]
        for host in (Host(self.system, False), self.played(("take", 1)), self.played(("take", 0), *go(1, 0))):
            for choice in row:
                self.check_refused(host, choice)

    def test_true_and_false_are_no_numbers(self):
        for host in (Host(self.system, False), self.played(("take", 0))):
            for word in ("take", "go"):
                for member in (True, False):
                    self.check_refused(host, (word, member))

    def test_choose_makes_just_what_choices_tells(self):
        tried = [("turn",)] + [(word, number) for word in ("take", "go") for number in range(-2, 7)]
        for silent in (False, True):
            host = Host(self.system, silent)
            for round_number in range(60):
                choices = host.choices()
                for choice in tried:
                    if choice in choices:
                        copy = host.copy_of()
                        self.assertIs(copy.choose(choice), True)
                        self.assertNotEqual(state(copy), state(host))
                    else:
                        self.check_refused(host, choice)
                if choices:
                    host.choose(choices[(round_number * 7) % len(choices)])


class RunTest(HostsTest):
    def test_a_task_that_calls_and_posts(self):
        begun = first_ground(self.system)
        others = [(4, ((1, 0), (1, 0)), 0), (4, ((0, 0), (0, 0)), 0)]
        host = self.played(("take", 0), *go(1))
        self.check_state(host, begun, others, [(2, 1, ((1, 1), (0, 0)), 0)], [], go(0))
        # The call: the frame that waits still stands at it.
        host.play(go(0))
        waits = (2, 1, ((1, 1), (0, 0)), 0)
        self.check_state(host, begun, others, [(0, 0, ((0, 0), (1, 1)), 0), waits], [], go(0, 1, 2))
        # f takes it for a; two branches, and a return.
        host.play(go(0, 0))
        self.check_state(host, begun, others, [(0, 4, ((0, 1), (1, 1)), 1), waits], [], go(0))
        host.play(go(0))
        self.check_state(host, begun, others, [(0, 7, ((0, 1), (1, 1)), 1), waits], [], go(0))
        host.play(go(0))
        self.check_state(host, begun, others, [(2, 2, ((1, 1), (0, 1)), 1)], [], go(0))
        # A branch, and a task is posted.
        host.play(go(0, 0))
        row = [*others, (3, ((0, 1), (1, 1)), 1)]
        self.check_state(host, begun, row, [(2, 4, ((1, 1), (0, 1)), 1)], [], go(0))
        # A jump, and g is called, which keeps its text, but not in its cell: strangers had a hand in it.
        host.play(go(0, 0))
        waits = (2, 6, ((1, 1), (0, 1)), 1)
        self.check_state(host, begun, row, [(1, 0, ((0, 1), (0, 1)), 1), waits], [], go(0))
        host.play(go(0, 0, 0))
        self.check_state(host, begun, row, [(1, 3, ((1, 1), (0, 1)), 1), waits], [], go(0))
        host.play(go(0))
        self.check_state(host, begun, row, [(2, 7, ((1, 1), (0, 1)), 1)], [], go(0))
        host.play(go(0, 0))
        self.check_state(host, begun, row, None, [], [("turn",), ("take", 0), ("take", 1), ("take", 2)])
        # The task that was posted: its use is denied, once.
        host.play([("take", 2), *go(0)])
        use = (0, (0,), 1, 0, 1, (0, 0, 0), False, ("u", 0))
        ground = (((0, 0), (0, 0)), 0, ((0, 1, 0), (), (0,)))
        self.check_state(host, ground, others, [(3, 1, ((0, 1), (1, 1)), 1)], [use], go(0))
        host.play(go(0))
        self.check_state(host, ground, others, None, [use], [("turn",), ("take", 0), ("take", 1)])
        self.assertEqual(
            host.journal(), [("take", 0), *go(1, 0, 0, 0, 0, 0, 0, 0, 0, 0, 0, 0, 0, 0, 0, 0), ("take", 2), *go(0, 0)]
        )

    def test_silence_and_asking(self):
        host = Host(self.system, True)
        host.play([("take", 0), *go(0, 0, 0, 0, 0, 0)])
        # Nothing was read, but even that has the mark of the channel.
        self.assertEqual(host.running(), [(2, 2, ((0, 1), (0, 1)), 1)])
        host.play(go(0, 0))
        self.assertEqual(host.waiting()[-1], (3, ((0, 1), (0, 1)), 1))

    def test_a_task_that_is_asked_for(self):
        system = read_system(TEXT.replace("if x a post u x s end", "if x b post u x s end"))
        host = Host(system, False)
        host.play([("take", 0), *go(1, 0, 0, 0, 0, 0)])
        self.assertEqual(host.running(), [(2, 2, ((1, 1), (0, 1)), 1)])
        host.play(go(0, 0))
        # The person has said yes: the word is a stranger's no more, the text is.
        self.assertEqual(host.waiting()[2:], [(3, ((0, 0), (1, 1)), 0)])
        self.assertEqual(host.running(), [(2, 6, ((1, 1), (0, 1)), 1)])
        host = Host(read_system(TEXT.replace("if x a post", "if x b post").replace("ask p", "ask r")), False)
        host.play([("take", 0), *go(1, 0, 0, 0, 0, 0, 0, 0)])
        self.assertEqual(len(host.waiting()), 2)
        self.assertEqual(host.running(), [(2, 6, ((1, 1), (0, 1)), 1)])

    def test_a_function_that_calls_itself(self):
        host = self.played(("take", 0), *go(1, 0))
        waits = [(2, 1, ((1, 1), (0, 0)), 0)]
        # Each time it takes the text for b.
        for _ in range(5):
            host.play(go(1, 0, 0))
            waits.insert(0, (0, 2, ((1, 1), (1, 1)), 1))
            self.assertEqual(host.running(), [(0, 0, ((1, 1), (1, 1)), 1), *waits])
        # Then for c: q is used, and its end answers (0, its own mark).
        host.play(go(2, 0, 0, 0))
        use = (1, (), 1, 0, 2, (0, 0, 0), True, ("f", 5))
        self.assertEqual(host.uses(), [use])
        self.assertEqual(host.running(), [(0, 6, ((2, 1), (1, 1)), 1), *waits])
        host.play(go(0))
        self.assertEqual(host.running()[0], (0, 8, ((2, 1), (1, 1)), 1))
        for _ in range(5):
            host.play(go(0))
            waits.pop(0)
            # The frame that waited has the answer, which is a.
            self.assertEqual(host.running(), [(0, 3, ((0, 1), (1, 1)), 1), *waits])
            # A jump to the branch, that to the return.
            host.play(go(0, 0))
            self.assertEqual(host.running(), [(0, 7, ((0, 1), (1, 1)), 1), *waits])
        host.play(go(0))
        self.assertEqual(host.running(), [(2, 2, ((1, 1), (0, 1)), 1)])

    def test_a_long_row_of_calls(self):
        host = self.played(("take", 0), *go(1, 0))
        self.assertEqual(host.play(go(1, 0, 0) * 3000), 9000)
        self.assertEqual(len(host.running()), 3002)
        self.assertEqual(host.play(go(0, 0, 0)), 3)
        self.assertEqual(host.play(go(0) * 9001), 9001)
        self.assertEqual(host.running(), [(2, 2, ((1, 1), (0, 1)), 1)])

    def test_cells(self):
        host = self.played(("take", 1), *go(0, 0))
        ground = (((2, 0), (0, 0)), 0, ((0, 0, 0), (), (0,)))
        self.assertEqual(host.ground(), ground)
        self.assertEqual(host.running(), [(4, 2, ((2, 0), (1, 0)), 0)])
        host.play(go(0))
        self.assertEqual(host.ground(), ground)
        self.assertIs(host.at_rest(), True)
        # A cell that a stranger's hand is in already.
        system = read_system("system domain d a b end channel m channel w cell i d task t end "
                             "body t x d y d s text begin read s m take x s keep i x if x b set y b keep i y end end "
                             "start t end end")
        host = Host(system, False)
        host.play([("take", 0), *go(1, 1, 0)])
        self.assertEqual(host.ground()[0], ((1, 1),))
        host.play(go(0, 0, 0))
        self.assertEqual(host.ground()[0], ((1, 1),))
        self.assertEqual(host.running(), [(0, 6, ((1, 1), (1, 1), (1, 1)), 1)])

    def test_turns_keep_cells_and_counts(self):
        system = read_system(
            "system domain d a b end cell i d tool q end task t end "
            "body t x d begin set x b keep i x do q with end end "
            "policy allow q anyone 2 end policy deny q anyone 1 allow q anyone always end policy allow q anyone 1 end "
            "start t end start t end start t end start t end end"
        )
        host = Host(system, False)
        host.play([("take", 0), *go(0, 0, 0, 0)])
        self.assertEqual(host.ground(), (((1, 0),), 0, ((1,), (0, 0), (0,))))
        host.play([("turn",)])
        self.assertEqual(host.ground(), (((1, 0),), 1, ((1,), (0, 0), (0,))))
        host.play([("take", 0), *go(0, 0, 0, 0), ("take", 0), *go(0, 0, 0, 0)])
        self.assertEqual(host.ground(), (((1, 0),), 1, ((1,), (1, 0), (0,))))
        host.play([("turn",), ("take", 0), *go(0, 0, 0, 0)])
        self.assertEqual(host.ground(), (((1, 0),), 2, ((1,), (1, 0), (1,))))
        self.assertEqual(host.uses(), [
            (0, (), 0, 0, 0, (0,), True, ("t", 2)), (0, (), 0, 1, 0, (0, 0), False, ("t", 2)),
            (0, (), 0, 1, 1, (1, 0), True, ("t", 2)), (0, (), 0, 2, 0, (0,), True, ("t", 2)),
        ])
        self.assertEqual(host.choices(), [])

    def test_tasks_wait_behind_all_others(self):
        system = read_system(
            "system domain d a b c end task t x d end "
            "body t x d y d begin set y b post t y end set y c post t y end end "
            "start t a end start t a end end"
        )
        host = Host(system, False)
        a, b, c = [(0, ((word, 0),), 0) for word in range(3)]
        host.play([("take", 0), *go(0, 0)])
        self.assertEqual(host.waiting(), [a, b])
        host.play(go(0, 0, 0))
        self.assertEqual(host.waiting(), [a, b, c])
        host.play([("take", 1), *go(0, 0, 0, 0, 0)])
        self.assertEqual(host.waiting(), [a, c, b, c])
        host.play([("take", 3), *go(0, 0, 0, 0, 0), ("take", 0), *go(0, 0, 0, 0, 0)])
        self.assertEqual(host.waiting(), [c, b, b, c, b, c])

    def test_points_of_uses(self):
        system = read_system(
            "system tool q end function f gives text task t end "
            "body f r text begin do q with end do q with end end "
            "body t r text begin do q with end call r f end do q with end end start t end end"
        )
        host = Host(system, False)
        uses = [(0, (), 0, 0, None, (), False, point) for point in (("t", 0), ("f", 0), ("f", 1), ("t", 2))]
        host.play([("take", 0)])
        for many in (1, 1, 2, 3, 3, 4, 4):
            self.assertIs(host.at_rest(), False)
            self.assertIs(host.choose(("go", 0)), True)
            self.assertEqual(host.uses(), uses[:many])
        self.assertIs(host.at_rest(), True)

    def test_an_answer_with_a_mark(self):
        system = read_system(
            "system domain d a b end channel m channel w function f s text gives d task t end "
            "body f s text x d r text begin read r w trust x r if x b take x s return x end end "
            "body t s text x d begin read s m call x f s end end start t end end"
        )
        host = Host(system, False)
        host.play([("take", 0), *go(1, 0, 1, 1)])
        self.assertEqual(host.running(), [(0, 2, ((1, 1), (1, 0), (1, 2)), 0), (1, 1, ((1, 1), (0, 0)), 0)])
        host.play(go(0, 1))
        self.assertEqual(host.running()[0], (0, 4, ((1, 1), (1, 1), (1, 2)), 0))
        host.play(go(0))
        self.assertEqual(host.running(), [(1, 2, ((1, 1), (1, 1)), 0)])
        # A branch on what was read on w: the answer and the caller have its mark.
        text = system.text().replace("trust x r", "take x r")
        host = Host(read_system(text), False)
        host.play([("take", 0), *go(1, 0, 1, 0, 0, 0)])
        self.assertEqual(host.running(), [(1, 2, ((1, 1), (0, 2)), 2)])
        host.play(go(0))
        self.assertEqual(host.waiting(), [])
        self.assertIs(host.at_rest(), True)


class ChanceTest(unittest.TestCase):
    """Runs of systems made by chance, beside runs made straight from the statements (tests/speaker.py)."""

    def test_runs(self):
        used = posted = turned = 0
        for seed in range(150):
            system = read_system(Maker(seed, 3 + seed % 6).text())
            silent = seed % 3 == 0
            host, world = Host(system, silent), World(system, silent)
            chance = random.Random(seed)
            ahead = len(host.waiting())
            for _ in range(150):
                self.assertEqual(host.choices(), world.choices())
                uses = [use[:-1] for use in host.uses()]
                self.assertEqual((host.ground(), host.waiting(), uses), world.told())
                if not host.choices():
                    break
                choice = chance.choice(host.choices())
                turned += choice == ("turn",)
                self.assertIs(host.choose(choice), True)
                world.choose(choice)
            used += len(host.uses())
            posted += max(0, len(host.waiting()) - ahead)
        self.assertGreater(min(used, posted, turned), 50)


class PlayTest(HostsTest):
    def test_play_stops_at_the_first_that_cannot_be_made(self):
        choices = [("take", 1), *go(0, 0, 0), ("take", 5), ("take", 0), *go(1)]
        host = Host(self.system, False)
        self.assertEqual(host.play(choices), 4)
        self.assertEqual(host.journal(), choices[:4])
        self.assertIs(host.at_rest(), True)
        self.assertEqual(host.play(choices[5:]), 2)
        self.assertEqual(host.journal(), choices[:4] + choices[5:])
        self.assertEqual(choices, [("take", 1), *go(0, 0, 0), ("take", 5), ("take", 0), *go(1)])

    def test_play_nothing(self):
        self.assertEqual(self.host.play([]), 0)
        self.assertEqual(self.host.journal(), [])

    def test_play_an_edit(self):
        host = Host(self.system, False)
        self.assertEqual(host.play([("turn",), ("edit", "edit end"), ("turn",)]), 1)
        self.assertEqual(host.journal(), [("turn",)])

    def test_the_journal_has_what_was_made_alone(self):
        host = self.host
        for choice in (("go", 0), ("turn",), ("take", 9), ("take", 1), ("turn",), ("go", 1), ("go", 0), ("turn", 0)):
            host.choose(choice)
        self.assertEqual(host.journal(), [("turn",), ("take", 1), ("go", 0)])


class CopyTest(HostsTest):
    def hosts(self):
        """Hosts at several points of runs."""
        yield Host(self.system, False)
        yield Host(self.system, True)
        yield Host(read_system(EMPTY), False)
        yield self.played(("turn",), ("take", 1))
        yield self.played(("take", 0), *go(1, 0, 1, 0, 0, 1, 0, 0))
        yield self.played(("take", 0), *go(1, 0, 2, 0, 0, 0))
        yield self.played(("take", 0), *go(1, 0, 0, 0, 0, 0, 0, 0, 0, 0, 0, 0, 0, 0, 0, 0), ("take", 2), *go(0, 0))
        edited = self.played(("turn",))
        edited.edit("edit body v x d y e begin do o x with end end end")
        edited.play([("take", 1), *go(0)])
        yield edited

    def test_a_copy_is_in_the_same_state(self):
        for host in self.hosts():
            ahead = state(host)
            copy = host.copy_of()
            self.assertIs(type(copy), Host)
            self.assertIsNot(copy, host)
            self.assertEqual(state(copy), ahead)
            self.assertEqual(state(host), ahead)

    def test_a_copy_and_its_host_go_their_own_ways(self):
        for host in self.hosts():
            ahead = state(host)
            for one, other in ((host.copy_of(), host), (host, host.copy_of())):
                for _ in range(30):
                    if one.choices():
                        one.choose(one.choices()[-1])
                self.assertEqual(state(other), ahead)
                if one.at_rest():
                    one.edit("edit end")
                    self.assertEqual(state(other), ahead)

    def test_a_copy_and_its_host_go_on_alike(self):
        for host in self.hosts():
            copy = host.copy_of()
            for _ in range(30):
                if host.choices():
                    choice = host.choices()[-1]
                    self.assertEqual(copy.choose(choice), host.choose(choice))
                    self.assertEqual(state(copy), state(host))

    def test_what_is_handed_out_changes_nothing(self):
        for host in self.hosts():
            ahead = state(host)
            for row in (host.waiting(), host.uses(), host.choices(), host.journal(), host.running() or []):
                row.clear()
                row.append(("turn",))
            self.assertEqual(state(host), ahead)

    def test_what_was_handed_out_stays(self):
        host = self.host
        rows = [host.waiting(), host.uses(), host.choices(), host.journal(), host.ground()]
        copies = [list(row) for row in rows[:4]] + [rows[4]]
        host.play([("turn",), ("take", 0), *go(1, 0, 0)])
        self.assertEqual(rows, copies)
        running = host.running()
        host.play(go(0))
        self.assertNotEqual(running, host.running())

    def test_what_is_handed_in_stays(self):
        text = self.system.text()
        host = self.played(("take", 0), *go(1, 0, 2, 0, 0, 0))
        self.assertEqual(self.system.text(), text)
        self.assertIs(host.system, self.system)
        choices = [("turn",), ("take", 0)]
        Host(self.system, False).play(choices)
        self.assertEqual(choices, [("turn",), ("take", 0)])


EDIT = "edit body v x d y e z d begin set z b post v z y end end body u x d s text begin do q with end end end"
EDITED = TEXT.replace(
    "body v x d y e begin set x c keep i x end", "body v x d y e z d begin set z b post v z y end end"
).replace("body u x d s text begin do o x with s end end", "body u x d s text begin do q with end end")


class EditTest(HostsTest):
    def test_the_host_has_the_edited_system(self):
        host = self.played(("turn",), ("take", 0), *go(1, 0, 2, 0, 0, 0), *go(0) * 12)
        self.assertIs(host.at_rest(), True)
        told = (host.ground(), host.waiting(), host.uses(), host.choices(), host.journal())
        self.assertEqual(len(host.uses()), 1)
        self.assertIsNone(host.edit(EDIT))
        check_equal(self, host.system, read_system(EDITED))
        self.assertEqual((host.ground(), host.waiting(), host.uses(), host.choices()), told[:4])
        self.assertEqual(host.journal(), [*told[4], ("edit", EDIT)])
        self.assertIs(host.at_rest(), True)
        self.assertIs(host.silent, False)
        # The system that was handed in stays as it is.
        check_equal(self, self.system, read_system(TEXT))

    def test_runs_go_by_the_edited_system(self):
        host = self.played(("take", 0), *go(1, 0, 0), *go(0) * 13)
        self.assertIs(host.at_rest(), True)
        host.edit(EDIT)
        self.assertEqual(host.play([("take", 0), *go(0)]), 2)
        self.assertEqual(host.running(), [(4, 1, ((1, 0), (1, 0), (1, 0)), 0)])
        self.assertEqual(host.play([*go(0, 0), ("take", 1), *go(0, 0)]), 5)
        self.assertEqual(host.waiting(), [(4, ((0, 0), (0, 0)), 0), (4, ((1, 0), (1, 0)), 0)])
        self.assertEqual(host.uses(), [(1, (), 1, 0, 2, (0, 0, 0), True, ("u", 0))])

    def test_the_text_stands_in_the_journal_as_it_was_told(self):
        text = "  edit   body v x d  y e begin end   end "
        self.host.play([("turn",)])
        self.host.edit(text)
        self.host.edit("edit end")
        self.host.play([("turn",)])
        self.assertEqual(self.host.journal(), [("turn",), ("edit", text), ("edit", "edit end"), ("turn",)])

    def test_edits_one_behind_the_other(self):
        self.host.edit(EDIT)
        self.host.edit("edit body v x d y e begin set x c keep i x end end")
        self.host.edit("edit body u x d s text begin do o x with s end end end")
        check_equal(self, self.host.system, self.system)

    def test_busy(self):
        for host in (self.played(("take", 1)), self.played(("take", 0), *go(1, 0))):
            for text in ("edit end", EDIT, "", "edit body nothing", "system end"):
                ahead = state(host)
                with self.assertRaises(SpeakError) as caught:
                    host.edit(text)
                self.assertIs(type(caught.exception), Busy)
                self.assertEqual(state(host), ahead)

    def test_an_edit_that_does_not_fit(self):
        host = self.played(("turn",))
        for text, at in (("", 0), ("edit", 1), ("edit body x", 2), ("edit body t s text x d begin return s end end", 8),
                         ("edit body v x d y e begin end body v x d y e begin end end", 10), ("edit end end", 2)):
            ahead = state(host)
            system = host.system
            with self.assertRaises(SpeakError) as caught:
                host.edit(text)
            self.assertIs(type(caught.exception), Misfit)
            self.assertEqual(caught.exception.at, at)
            self.assertEqual(state(host), ahead)
            self.assertIs(host.system, system)

    def test_an_edit_is_no_choice(self):
        for choice in (("edit", EDIT), ("edit", "edit end")):
            self.check_refused(self.host, choice)
            self.check_refused(self.played(("take", 0)), choice)

    def test_copies_of_edited_hosts(self):
        host = self.host
        copy = host.copy_of()
        host.edit(EDIT)
        check_equal(self, copy.system, self.system)
        other = host.copy_of()
        other.edit("edit body v x d y e begin end end")
        check_equal(self, host.system, read_system(EDITED))
        self.assertEqual(copy.journal(), [])


class ReplayTest(HostsTest):
    def journals(self):
        """Journals with the silence of their hosts."""
        yield False, []
        yield False, [("turn",), ("take", 0), *go(1, 0, 1, 0, 0, 2, 0)]
        yield False, [("take", 1), *go(0, 0, 0), ("turn",), ("take", 1)]
        yield True, [("take", 0), *go(0, 0, 0, 0, 0, 0)]
        yield False, [("edit", EDIT)]
        yield False, [("take", 0), *go(1, 0, 0), *go(0) * 13, ("edit", EDIT), ("turn",), ("take", 2), *go(0, 0),
                      ("edit", "edit body v x d y e begin do o x with end end end"), ("take", 1), *go(0)]
        yield True, [("turn",), ("edit", "edit end"), ("edit", EDIT), ("take", 2), *go(0, 0)]

    def made(self, silent, journal):
        host = Host(self.system, silent)
        for entry in journal:
            if entry[0] == "edit":
                host.edit(entry[1])
            else:
                self.assertIs(host.choose(entry), True, entry)
        return host

    def test_replay(self):
        for silent, journal in self.journals():
            host = self.made(silent, journal)
            copied = list(journal)
            again = replay(self.system, silent, journal)
            self.assertIs(type(again), Host)
            self.assertEqual(journal, copied)
            self.assertEqual(state(again), state(host))
            self.assertEqual(again.journal(), journal)
            self.go_on_alike(host, again)
            check_equal(self, self.system, read_system(TEXT))

    def go_on_alike(self, host, other):
        for number in range(25):
            if host.at_rest() and number % 5 == 4:
                text = f"edit body v x d y e begin {'set x b ' * number} end end"
                host.edit(text)
                other.edit(text)
            elif host.choices():
                choice = host.choices()[number % len(host.choices())]
                self.assertIs(host.choose(choice), True)
                self.assertIs(other.choose(choice), True)
            self.assertEqual(state(other), state(host))

    def test_the_journal_handed_in_is_not_kept(self):
        journal = [("turn",)]
        host = replay(self.system, False, journal)
        host.play([("take", 0)])
        self.assertEqual(journal, [("turn",)])
        journal.clear()
        self.assertEqual(host.journal(), [("turn",), ("take", 0)])

    def test_refused(self):
        for journal in (
            [("go", 0)], [("take", 3)], [("take", -1)], [("turn",), ("turn",), ("turn",)], [("stay",)],
            [("take", 0), ("go", 2)], [("take", 0), ("turn",)], [("take", 0), ("edit", "edit end")],
            [("edit", "")], [("edit", "edit")], [("turn",), ("edit", "edit body x end")], [("edit",)],
            [("edit", "edit end", 0)], [("edit", EDIT), ("take", 1), *go(0, 0, 0), ("edit", "edit end end")],
            [("turn",), ("take", 9), ("turn",)], [("take", 0), ("take", 0)], [("edit", ("edit end",))], [("edit", 0)],
            [("take", True)], [("send",)], [("turn", 0)], [("stay", "edit end")], [("turn", "edit end")],
        ):
            with self.assertRaises(SpeakError) as caught:
                replay(self.system, False, journal)
            self.assertIs(type(caught.exception), Refused, journal)
        with self.assertRaises(Refused):
            replay(self.system, True, [("take", 0), ("go", 1)])
        with self.assertRaises(Refused):
            replay(read_system(EMPTY), False, [("take", 0)])

    def test_past(self):
        for silent, journal in self.journals():
            host = self.made(silent, journal)
            ahead = state(host)
            for one in (host, host.copy_of(), past(host, len(journal)), past(host.copy_of(), len(journal))):
                for many in range(len(journal) + 1):
                    self.assertEqual(state(past(one, many)), state(self.made(silent, journal[:many])))
                self.assertEqual(state(one), ahead)

    def test_past_of_a_past_host_that_went_on(self):
        for silent, journal in self.journals():
            host = self.made(silent, journal)
            for many in range(len(journal) + 1):
                one = past(host, many)
                self.go_on_alike(one, one.copy_of())
                entries = one.journal()
                self.assertEqual(entries[:many], journal[:many])
                for fewer in range(0, len(entries) + 1, 3):
                    self.assertEqual(state(past(one, fewer)), state(self.made(silent, entries[:fewer])))

    def test_missing(self):
        for silent, journal in self.journals():
            host = self.made(silent, journal)
            ahead = state(host)
            for more in (1, 2, 100):
                with self.assertRaises(SpeakError) as caught:
                    past(host, len(journal) + more)
                self.assertIs(type(caught.exception), Missing)
            self.assertEqual(state(host), ahead)
        with self.assertRaises(Missing):
            past(Host(read_system(EMPTY), False), 1)

    def test_what_is_done_to_the_past_host(self):
        for silent, journal in self.journals():
            host = self.made(silent, journal)
            ahead = state(host)
            for many in (0, len(journal)):
                one = past(host, many)
                behind = state(one)
                self.go_on_alike(one, one.copy_of())
                self.assertEqual(state(host), ahead)
                one = past(host, many)
                other = host.copy_of()
                self.go_on_alike(other, other.copy_of())
                self.assertEqual(state(one), behind)


if __name__ == "__main__":
    unittest.main()

"""Points [23] and [24]: nobodyspeaks/desks.py."""

import random
import unittest

from chance import Maker
from samples import EMPTY, state

from nobodyspeaks import desks
from nobodyspeaks.desks import Desk
from nobodyspeaks.errors import Busy, SpeakError
from nobodyspeaks.hosts import Host
from nobodyspeaks.reading import read_system

# t uses q, which is allowed twice; u uses o, which nobody allows; v reads and uses q.
TEXT = (
    "system domain d a b end channel m tool q end tool o d end task t end task u end task v end "
    "body t begin do q with end do q with end do q with end end "
    "body u x d begin do o x with end end "
    "body v x d s text begin read s m take x s do q with s end end "
    "policy allow q anyone 4 end policy allow q anyone always end start t end start u end start v end start t end end"
)
SEND, HEAR, CRASH, RESUME, GO = ("send",), ("hear",), ("crash",), ("resume",), ("go", 0)


class DesksTest(unittest.TestCase):
    def setUp(self):
        self.system = read_system(TEXT)
        self.desk = Desk(self.system, False)

    def check(self, desk, *told):
        self.assertEqual(desk.told(), told)
        self.assertIs(type(desk.told()), tuple)
        self.assertIs(type(desk.told()[0]), bool)
        self.assertIs(type(desk.told()[1]), bool)
        self.assertIs(type(desk.told()[3]), list)

    def makes(self, desk, *moves):
        for move in moves:
            self.assertIs(desk.move(move), True, move)

    def refuses(self, desk, *moves):
        for move in moves:
            told = desk.told()
            host = state(desk.host()) if told[0] else None
            self.assertIs(desk.move(move), False, move)
            self.assertEqual(desk.told(), told)
            if told[0]:
                self.assertEqual(state(desk.host()), host)

    def check_host(self, desk, choices, silent=False):
        """The host of the desk is that of these choices alone."""
        host = Host(self.system, silent)
        self.assertEqual(host.play(choices), len(choices))
        self.assertEqual(state(desk.host()), state(host))

    def test_interface(self):
        self.assertEqual(Desk.__module__, "nobodyspeaks.desks")
        for name in ("move", "told", "host"):
            self.assertIn(name, vars(Desk))
        desk = desks.Desk(system=self.system, silent=True)
        self.assertIs(desk.move(move=("take", 0)), True)
        self.assertIs(type(desk.host()), Host)

    def test_a_desk_begins(self):
        for silent in (False, True):
            desk = Desk(self.system, silent)
            self.check(desk, True, False, 0, [], 0)
            self.check_host(desk, [], silent)
        self.check(Desk(read_system(EMPTY), False), True, False, 0, [], 0)

    def test_a_round_of_all_moves(self):
        desk = self.desk
        self.refuses(desk, SEND, HEAR, RESUME, GO)
        self.makes(desk, ("take", 0))
        self.check(desk, True, False, 0, [], 0)
        self.refuses(desk, SEND, HEAR)
        self.makes(desk, GO)
        self.check(desk, True, False, 0, [], 1)
        self.refuses(desk, HEAR, RESUME)
        self.makes(desk, SEND)
        self.check(desk, True, True, 0, [0], 1)
        self.makes(desk, HEAR)
        self.check(desk, True, False, 1, [0], 1)
        self.refuses(desk, SEND, HEAR)
        self.makes(desk, GO)
        self.check(desk, True, False, 1, [0], 2)
        self.makes(desk, SEND)
        self.check(desk, True, True, 1, [0, 1], 2)
        self.makes(desk, CRASH)
        self.check(desk, False, False, 1, [0, 1], 0)
        self.makes(desk, RESUME)
        self.check(desk, True, False, 1, [0, 1], 2)
        self.check_host(desk, [("take", 0), GO, GO])

    def test_the_first_that_has_not_ended_is_sent(self):
        desk = self.desk
        self.makes(desk, ("take", 0), GO, GO, GO)
        self.check(desk, True, False, 0, [], 3)
        for ended in range(3):
            self.makes(desk, SEND)
            self.check(desk, True, True, ended, list(range(ended + 1)), 3)
            self.makes(desk, HEAR)
            self.check(desk, True, False, ended + 1, list(range(ended + 1)), 3)
        self.refuses(desk, SEND, HEAR)

    def test_a_sending_while_one_is_sent_does_nothing_new(self):
        desk = self.desk
        self.makes(desk, ("take", 0), GO, GO, SEND)
        for _ in range(4):
            self.makes(desk, SEND)
            self.check(desk, True, True, 0, [0], 2)
        self.makes(desk, HEAR)
        self.check(desk, True, False, 1, [0], 2)
        self.refuses(desk, HEAR)
        self.makes(desk, SEND, SEND)
        self.check(desk, True, True, 1, [0, 1], 2)

    def test_choices_while_one_is_sent(self):
        desk = self.desk
        self.makes(desk, ("take", 0), GO, SEND, GO)
        self.check(desk, True, True, 0, [0], 2)
        self.makes(desk, GO, HEAR, SEND, GO)
        self.check(desk, True, True, 1, [0, 1], 3)
        self.assertIs(desk.host().at_rest(), True)

    def test_a_crash_forgets_what_was_sent(self):
        desk = self.desk
        self.makes(desk, ("take", 0), GO, GO, SEND, CRASH)
        self.check(desk, False, False, 0, [0], 0)
        self.makes(desk, RESUME)
        self.refuses(desk, HEAR)
        # The same use again: the outside does it no second time.
        for _ in range(3):
            self.makes(desk, SEND)
            self.check(desk, True, True, 0, [0], 2)
            self.makes(desk, CRASH)
            self.check(desk, False, False, 0, [0], 0)
            self.makes(desk, RESUME)
            self.check(desk, True, False, 0, [0], 2)
        self.makes(desk, SEND, HEAR)
        self.check(desk, True, False, 1, [0], 2)
        self.makes(desk, SEND)
        self.check(desk, True, True, 1, [0, 1], 2)

    def test_what_has_ended_outlives_a_crash(self):
        desk = self.desk
        self.makes(desk, ("take", 0), GO, SEND, HEAR, CRASH)
        self.check(desk, False, False, 1, [0], 0)
        self.makes(desk, RESUME)
        self.check(desk, True, False, 1, [0], 1)
        self.refuses(desk, SEND, HEAR)
        self.makes(desk, GO, SEND)
        self.check(desk, True, True, 1, [0, 1], 2)

    def test_down(self):
        desk = self.desk
        self.makes(desk, ("take", 0), GO, CRASH)
        self.refuses(desk, CRASH, SEND, HEAR, GO, ("take", 0), ("turn",), ("go", 1), ("stay",), ("resume", 0))
        with self.assertRaises(SpeakError) as caught:
            desk.host()
        self.assertIs(type(caught.exception), Busy)
        self.check(desk, False, False, 0, [], 0)
        self.makes(desk, RESUME)
        self.refuses(desk, RESUME)
        self.makes(desk, CRASH, RESUME, CRASH, RESUME)
        self.check_host(desk, [("take", 0), GO])

    def test_what_cannot_be_made_is_not_noted(self):
        desk = self.desk
        self.refuses(desk, GO, ("take", 4), ("take", -1))
        self.makes(desk, ("turn",))
        self.refuses(desk, ("turn",))
        self.makes(desk, ("take", 2))
        self.refuses(desk, ("take", 0), ("turn",), ("go", 2), ("go", -1))
        self.makes(desk, ("go", 1), CRASH, RESUME)
        choices = [("turn",), ("take", 2), ("go", 1)]
        self.check_host(desk, choices)
        self.refuses(desk, ("go", 2))
        self.makes(desk, ("go", 1), GO, SEND, CRASH)
        self.refuses(desk, GO)
        self.makes(desk, RESUME)
        self.check_host(desk, [*choices, ("go", 1), GO])
        self.check(desk, True, False, 0, [0], 1)

    def test_a_crash_in_the_middle_of_a_task(self):
        for many in range(7):
            choices = [("take", 0), GO, GO, GO, GO, ("take", 1), ("go", 1), ("go", 1)][:many + 2]
            desk = Desk(self.system, False)
            for choice in choices:
                self.makes(desk, choice, CRASH, RESUME)
            self.check_host(desk, choices)
            self.makes(desk, CRASH, RESUME)
            self.check_host(desk, choices)

    def test_a_denied_use_is_never_sent(self):
        desk = self.desk
        self.makes(desk, ("take", 1), GO)
        self.check(desk, True, False, 0, [], 0)
        self.assertEqual(len(desk.host().uses()), 1)
        self.refuses(desk, SEND)
        # The numbers are those among the allowed ones.
        self.makes(desk, GO, ("take", 0), GO, SEND)
        self.check(desk, True, True, 0, [0], 1)
        self.makes(desk, GO, GO, GO, ("take", 1), GO, GO)
        # The policy allows four: the sixth use is denied.
        self.check(desk, True, True, 0, [0], 4)
        self.assertEqual([use[6] for use in desk.host().uses()], [False, True, True, True, True, False])
        self.makes(desk, HEAR, SEND, HEAR, SEND, HEAR, SEND, HEAR)
        self.check(desk, True, False, 4, [0, 1, 2, 3], 4)
        self.refuses(desk, SEND, HEAR)

    def test_silence(self):
        desk = Desk(self.system, True)
        self.makes(desk, ("take", 2))
        self.refuses(desk, ("go", 1))
        self.makes(desk, GO, CRASH, RESUME)
        self.check_host(desk, [("take", 2), GO], True)
        self.refuses(desk, ("go", 1))

    def test_any_other_tuple(self):
        row = [
            ("send", 0), ("hear", 0), ("crash", 0), ("resume", 0), ("send", None), ("crash", "crash"), ("stay",),
            ("edit", "edit end"), ("edit",), ("Send",), ("", 0), ("take",), ("go", "0"), ("turn", 0), ("told",),
            ("take", True), ("host", [], {}, None), ("send", "send", "send"),
        ]
        desk = self.desk
        self.refuses(desk, *row)
        self.makes(desk, ("take", 0), GO, SEND)
        self.refuses(desk, *row)
        self.makes(desk, HEAR, CRASH)
        self.refuses(desk, *row)
        self.makes(desk, RESUME)
        self.refuses(desk, *row)

    def test_the_host_told_is_a_copy(self):
        desk = self.desk
        self.makes(desk, ("take", 0), GO)
        copy = desk.host()
        ahead = state(copy)
        self.makes(desk, GO)
        self.assertEqual(state(copy), ahead)
        behind = state(desk.host())
        copy.play([GO, GO, GO, ("turn",)])
        copy.edit("edit body t begin end end")
        self.assertEqual(state(desk.host()), behind)
        self.makes(desk, CRASH, RESUME)
        self.assertEqual(state(desk.host()), behind)
        self.check(desk, True, False, 0, [], 2)

    def test_what_is_told_changes_nothing(self):
        desk = self.desk
        self.makes(desk, ("take", 0), GO, SEND)
        outside = desk.told()[3]
        outside.append(7)
        self.check(desk, True, True, 0, [0], 1)
        told = desk.told()
        self.makes(desk, HEAR, GO, SEND)
        self.assertEqual(told, (True, True, 0, [0], 1))
        text = self.system.text()
        self.assertEqual(text, read_system(TEXT).text())

    def test_by_chance(self):
        for seed in range(40):
            self.system = read_system(Maker(seed, 5).text()) if seed % 2 else read_system(TEXT)
            chance = random.Random(seed)
            silent = seed % 3 == 0
            desk = Desk(self.system, silent)
            choices = []
            for _ in range(120):
                moves = [SEND, HEAR, CRASH, RESUME]
                if desk.told()[0]:
                    moves = [move for move in moves for _ in range(2)] + desk.host().choices() * 4 + [("go", 9)]
                move = chance.choice(moves)
                made = desk.move(move)
                if made and move[0] in ("take", "go", "turn"):
                    choices.append(move)
                self.check_promise(desk, choices, silent)

    def check_promise(self, desk, choices, silent):
        """Point [24]."""
        up, sent, ended, outside, uses = desk.told()
        self.assertIn(outside, (list(range(ended)), list(range(ended + 1))))
        if up:
            self.check_host(desk, choices, silent)
            allowed = len([use for use in desk.host().uses() if use[6]])
            self.assertEqual(uses, allowed)
            self.assertLessEqual(len(outside), allowed)
            self.assertTrue(not sent or len(outside) == ended + 1)
        else:
            self.assertEqual((sent, uses), (False, 0))


if __name__ == "__main__":
    unittest.main()

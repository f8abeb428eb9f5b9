"""Points [5], [6], [7] and [9]: texts that are read, and the text that a system tells."""

import unittest

from samples import EMPTY, FULL, check_equal, check_read

from nobodyspeaks import reading
from nobodyspeaks.reading import read_system
from nobodyspeaks.systems import System

# A task with a variable of a domain, one of another domain and two texts.
HEAD = "system domain d a b c end domain e y n end channel m channel w person p cell i d cell j text tool o d end "
ONE = HEAD + "task t end body t x d z e s text r text begin {} end end"


class ReadTest(unittest.TestCase):
    def check_shortest(self, text, shortest):
        system = check_read(self, text)
        self.assertEqual(system.text(), shortest)
        again = check_read(self, shortest)
        self.assertEqual(again.text(), shortest)
        check_equal(self, system, again)

    def test_interface(self):
        self.assertEqual(read_system.__module__, "nobodyspeaks.reading")
        system = reading.read_system(text=EMPTY)
        self.assertIs(type(system), System)
        self.assertEqual(System.__module__, "nobodyspeaks.systems")
        for name in ("text", "told", "code", "points"):
            self.assertIn(name, vars(System))
        self.assertIs(type(system.text()), str)

    def test_an_empty_system(self):
        self.check_shortest("system end", "system end")
        self.check_shortest("   system   end ", "system end")

    def test_all_parts_and_all_forms_of_statements(self):
        self.check_shortest(FULL, FULL)

    def test_blanks_count_for_nothing_but_separating(self):
        words = FULL.split()
        for text in (" " + FULL, FULL + " ", "     " + FULL + "       ", "  ".join(words), "       ".join(words),
                     "".join(word + " " * (1 + at // 7 - at // 9) for at, word in enumerate(words))):
            self.check_shortest(text, FULL)

    def test_parts_alone(self):
        for text in (
            "system domain d a b end end",
            "system channel c end",
            "system person p end",
            "system cell c text end",
            "system tool t end end",
            "system function f gives text body f begin end end",
            "system task t end body t begin end end",
            "system policy end end",
            "system task t end body t begin end start t end end",
            "system person p task t end body t begin end yes p t end end",
        ):
            self.check_shortest(text, text)

    def test_each_form_of_a_statement_alone(self):
        for row in (
            "read s m", "read r w", "choose x from end", "choose x from z end", "choose z from s x z end",
            "choose x from x x x end", "write s from end", "write s from s r end", "take x s", "take z r", "trust x s",
            "set x c", "set z n", "copy x x", "copy s r", "copy z z", "keep i x", "keep j s", "recall x i",
            "recall r j", "if x a end", "if z n set x a end", "if x b set x a else set x c end",
            "if x b else set x c end", "post t end", "ask p t end", "do o x with end", "do o x with s end",
            "do o x with s s end", "do o x with r s end",
        ):
            self.check_shortest(ONE.format(row), ONE.format(row))

    def test_an_else_without_statements_is_left_out(self):
        for row, shortest in (
            ("if x a else end", "if x a end"),
            ("if x a set x b else end", "if x a set x b end"),
            ("if x a else set x b end", "if x a else set x b end"),
            ("if x a if z y else end else end", "if x a if z y end end"),
            ("if x a if z y else end else if z n else end end", "if x a if z y end else if z n end end"),
            ("if x a else if x b else if x c else end end end", "if x a else if x b else if x c end end end"),
            ("if x a post t end else end set x a", "if x a post t end end set x a"),
        ):
            self.check_shortest(ONE.format(row), ONE.format(shortest))

    def test_the_channels_of_a_rule_rise_each_once(self):
        head = "system channel c0 channel c1 channel c2 channel c3 channel c4 channel c5 tool o end "
        text = head + "policy allow o from {} end always end end"
        for named, told in (
            ("c0", "c0"), ("c5", "c5"), ("c1 c0", "c0 c1"), ("c2 c2", "c2"), ("c3 c1 c3", "c1 c3"),
            ("c5 c4 c3 c2 c1 c0", "c0 c1 c2 c3 c4 c5"), ("c0 c1 c2 c3 c4 c5", "c0 c1 c2 c3 c4 c5"),
            ("c4 c4 c4 c4 c4 c4", "c4"), ("c5 c0 c5 c0 c5 c0", "c0 c5"),
        ):
            self.check_shortest(text.format(named), text.format(told))

    def test_they_rise_by_their_numbers_and_not_by_their_names(self):
        head = "system channel zoo channel abc channel mid tool o end "
        text = head + "policy allow o from {} end always deny o from {} end 2 end end"
        self.check_shortest(text.format("abc zoo", "mid abc mid zoo"), text.format("zoo abc", "zoo abc mid"))

    def test_who_and_how_often(self):
        for who in ("anyone", "nobody", "from m end", "from m w end"):
            for many in ("always", "1", "2", "3", "4"):
                for verb in ("allow", "deny"):
                    for word in ("a", "b", "c", "any"):
                        text = HEAD + f"policy {verb} o {word} {who} {many} end end"
                        self.check_shortest(text, text)

    def test_patterns_and_starts(self):
        head = HEAD + "task t x d s text z e end task u x d z e end "
        head += "body t x d s text z e begin end body u x d z e begin end "
        for row in ("yes p t a any y end", "yes p t any any any end", "yes p u any n end", "yes p u c n end",
                    "start u a y end", "start u c n end", "yes p t b any n end start u b y end start u b y end"):
            self.check_shortest(head + row + " end", head + row + " end")

    def test_names_that_stand_elsewhere(self):
        # Words and variables may have the names of parts, of one another and of those of other bodies.
        text = (
            "system domain d d t end domain e d e end channel c task t d d end function f x d d2 e gives d "
            "body t d d t e c text begin set d t set t e read c c end "
            "body f x d d2 e f d c e begin set f d if d2 d return x end end "
            "start t d end start t t end end"
        )
        self.check_shortest(text, text)

    def test_a_function_may_call_itself_and_those_above_and_below(self):
        text = (
            "system function f gives text function g gives text "
            "body f x text begin call x f end call x g end end body g x text begin call x g end call x f end end end"
        )
        self.check_shortest(text, text)

    def test_names_of_12_signs(self):
        text = "system domain abcdefghijkl a12345678901 z end channel zyxwvutsrqpo person a0 end"
        self.check_shortest(text, text)


if __name__ == "__main__":
    unittest.main()

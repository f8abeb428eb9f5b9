"""Points [35] and [36]: nobodyspeaks/edits.py."""

import unittest

from grammar import KEPT, edit_oracle
from samples import EMPTY, check_equal

from nobodyspeaks import edits
from nobodyspeaks.edits import edited, touches
from nobodyspeaks.errors import Misfit, SpeakError
from nobodyspeaks.policies import first_ground
from nobodyspeaks.reading import read_system
from nobodyspeaks.systems import System

HEAD = (
    "system domain d a b c end domain e y n end channel m channel w person p cell i d cell j text tool o d end tool q "
    "end function f x d s text gives d function g gives text task t end task u x d end task v end "
)
BODIES = (
    "body f x d s text k d begin take k s return k end",
    "body g r text begin write r from end return r end",
    "body t x d s text begin read s m call x f x s end post u x end end",
    "body u x d begin if x a do o x with end else do q with end end end",
    "body v begin ask p t end end",
)
TAIL = (
    "yes p t end policy allow q from w m end 1 allow o any anyone always end policy end start t end start u b end end"
)
TEXT = HEAD + " ".join(BODIES) + " " + TAIL

# Other bodies for the same heads: with further variables, other ones or none, and calls upwards and downwards.
OTHERS = (
    "body f x d s text begin call x f x s end call s g end end",
    "body g r text one d two d three e four text five text begin call one f two r end return four end",
    "body t begin end",
    "body u x d x2 d s text begin call x2 f x s end call s g end post v end post t end post u x2 end do q with s s end "
    "end",
    "body v z e begin choose z from z z z end if z y else do q with end end end",
)


def edit_of(*numbers):
    """The edit that gives the other bodies of these numbers, in this order."""
    return " ".join(["edit", *[OTHERS[number] for number in numbers], "end"])


def with_others(*numbers):
    """The text of the system in which the other bodies of these numbers stand."""
    bodies = [OTHERS[at] if at in numbers else body for at, body in enumerate(BODIES)]
    return HEAD + " ".join(bodies) + " " + TAIL


def refused_at(system, text):
    try:
        edited(system, text)
    except SpeakError as error:
        assert error.__class__ is Misfit, error
        return error.at
    return None


class EditedTest(unittest.TestCase):
    def setUp(self):
        self.system = read_system(TEXT)

    def check(self, text, expected):
        ahead = read_system(TEXT)
        told = edited(self.system, text)
        self.assertIs(type(told), System)
        check_equal(self, told, read_system(expected))
        # The old one stays as it is.
        check_equal(self, self.system, ahead)
        return told

    def test_interface(self):
        for name in ("edited", "touches"):
            self.assertEqual(getattr(edits, name).__module__, "nobodyspeaks.edits")
        self.assertEqual(edits.edited(system=self.system, text="edit end").text(), self.system.text())
        self.assertIs(edits.touches(system=self.system, text="edit end", paper=([], [])), False)

    def test_no_body(self):
        self.check("edit end", TEXT)
        self.check("  edit   end ", TEXT)
        check_equal(self, edited(read_system(EMPTY), "edit end"), read_system(EMPTY))

    def test_one_body(self):
        for number in range(5):
            self.check(edit_of(number), with_others(number))

    def test_two_and_three_in_any_order(self):
        for one in range(5):
            for two in range(5):
                if one == two:
                    continue
                self.check(edit_of(one, two), with_others(one, two))
                for three in range(5):
                    if three not in (one, two):
                        self.check(edit_of(one, two, three), with_others(one, two, three))

    def test_the_same_body_again(self):
        for body in BODIES:
            self.check(f"edit {body} end", TEXT)

    def test_an_edited_system_is_edited(self):
        system = edited(edited(self.system, edit_of(4, 0)), edit_of(1, 3))
        check_equal(self, system, read_system(with_others(0, 1, 3, 4)))
        system = edited(system, f"edit {BODIES[3]} {OTHERS[2]} {BODIES[0]} end")
        check_equal(self, system, read_system(with_others(1, 2, 4)))
        system = edited(system, f"edit {BODIES[1]} {BODIES[2]} {BODIES[4]} end")
        check_equal(self, system, self.system)

    def test_other_code_and_points(self):
        system = self.check("edit body t begin do q with end end body v k e begin if k n do q with end end end end",
                            TEXT.replace(BODIES[2], "body t begin do q with end end").replace(
                                BODIES[4], "body v k e begin if k n do q with end end end"))
        self.assertEqual(self.system.points(), [("u", 1), ("u", 3)])
        self.assertEqual(system.points(), [("t", 0), ("u", 1), ("u", 3), ("v", 1)])
        self.assertEqual(system.code("t"), [("do", 1, (), ()), ("end",)])
        self.assertEqual(self.system.code("t")[0], ("read", 1, 0))
        self.assertEqual(first_ground(system), first_ground(self.system))

    def test_an_else_without_statements_is_left_out(self):
        told = edited(self.system, "edit body u x d begin if x a else end end end")
        self.assertIn("body u x d begin if x a end end", told.text())

    def test_what_is_handed_out_changes_nothing(self):
        told = edited(self.system, edit_of(2, 3))
        for system in (told, self.system):
            ahead = system.told()
            for row in system.told():
                if isinstance(row, list):
                    row.clear()
            system.code("t").clear()
            system.points().clear()
            self.assertEqual(system.told(), ahead)
        check_equal(self, told, read_system(with_others(2, 3)))
        check_equal(self, self.system, read_system(TEXT))


class RefusedTest(unittest.TestCase):
    def setUp(self):
        self.system = read_system(TEXT)

    def check(self, marked):
        """The edit is refused at the word that has a > ahead of it, or at its end if that stands alone behind it."""
        words = marked.split()
        places = [at for at, word in enumerate(words) if word.startswith(">")]
        self.assertEqual(len(places), 1, marked)
        text = " ".join(words).replace(">", "")
        self.assertEqual(refused_at(self.system, text), places[0], marked)
        self.assertEqual(edit_oracle(TEXT, text), places[0], marked)
        with self.assertRaises(Misfit) as caught:
            touches(self.system, text, ([], []))
        self.assertEqual(caught.exception.at, places[0])
        check_equal(self, self.system, read_system(TEXT))

    def test_the_words_around_the_bodies(self):
        self.check(">")
        self.check("edit >")
        self.check(">system end")
        self.check(">body t begin end end")
        self.check("edit >edit end")
        self.check("edit end >end")
        self.check("edit end >body t begin end end")
        self.check("edit >t begin end end")
        self.check("edit >domain d2 a b end end")
        self.check("edit body >")
        self.check("edit body t begin end >")
        self.check("edit body t begin end >policy end end")
        self.check("edit body t begin end end >end")

    def test_a_fourth_body(self):
        self.check(edit_of(0, 1, 2)[:-3] + ">" + OTHERS[3] + " end")
        self.check(edit_of(4, 3, 2)[:-3] + ">" + OTHERS[0] + " end")
        self.check("edit body t begin end body v begin end body u x d begin end >body")
        # Ahead of its name.
        self.check("edit body t begin end body v begin end body u x d begin end >body nothing begin end end")
        self.check("edit body t begin end body v begin end body u x d begin end >body t begin end end")

    def test_a_procedure_that_there_is_not(self):
        for name in ("w", "d", "m", "p", "i", "o", "x", "k", "end", "begin", "body", "5", "T"):
            self.check(f"edit body >{name} begin end end")
        self.check("edit body t begin end body >t2 begin end end")

    def test_a_procedure_that_is_given_twice(self):
        self.check("edit body t begin end body >t begin end end")
        self.check("edit body t begin end body v begin end body >t begin end end")
        self.check("edit body v begin end body t begin end body >t begin end end")

    def test_another_name_or_kind_of_a_parameter(self):
        self.check("edit body u >y d begin end end")
        self.check("edit body u x >e begin end end")
        self.check("edit body u x >text begin end end")
        self.check("edit body u >begin end end")
        self.check("edit body f x d >begin end end")
        self.check("edit body f >s text x d begin end end")
        self.check("edit body f x d s >d begin end end")
        self.check("edit body t x d >x d begin end end")
        self.check("edit body u x d >x d begin end end")

    def test_variables(self):
        self.check("edit body u x d k >f begin end end")
        self.check("edit body u x d k1 d k2 d k3 d k4 d k5 d >k6 d begin end end")
        self.check("edit body u x d >end end")
        self.check("edit body u x d k d >end end")
        self.check("edit body u x d k >")

    def test_statements(self):
        self.check("edit body t x d begin >return x end end")
        self.check("edit body f x d s text begin >post t end end end")
        self.check("edit body f x d s text begin >ask p t end end end")
        self.check("edit body t x d begin read >x m end end")
        self.check("edit body t x text begin read x >d end end")
        self.check("edit body t x d begin set x >y end end")
        self.check("edit body t x e begin call x >f x x end end end")
        self.check("edit body t x d s text begin call x f >s x end end end")
        self.check("edit body t x d s text begin call x f x s >s end end end")
        self.check("edit body t x d begin post u >end end end")
        self.check("edit body t x d begin post >f x x end end end")
        self.check("edit body t x d begin keep j >x end end")
        self.check("edit body t s text begin keep i >s end end")
        self.check("edit body t x e begin do o >x with end end end")
        self.check("edit body t x e begin >else end end")
        # The variables are those of the new body: k stood in the old one.
        self.check("edit body f x d s text begin return >k end end")

    def test_limits(self):
        thirty = "do q with end " * 30
        self.assertIsNone(refused_at(self.system, f"edit body t begin {thirty} end end"))
        self.check(f"edit body t begin {thirty} >do q with end end end")
        four = "if x a " * 4
        self.assertIsNone(refused_at(self.system, f"edit body u x d begin {four} {'end ' * 4} end end"))
        self.check(f"edit body u x d begin {four} >if x a {'end ' * 5} end end")

    def test_a_word_missing_at_the_end(self):
        words = edit_of(3, 0, 4).split()
        for many in range(len(words)):
            self.check(" ".join(words[:many]) + " >")

    def test_a_system_without_procedures(self):
        system = read_system(EMPTY)
        self.assertEqual(refused_at(system, "edit body t begin end end"), 2)
        self.assertEqual(refused_at(system, "edit"), 1)

    def test_sweep(self):
        text = edit_of(3, 1, 4)
        words = text.split()
        for other in sorted(set(words + KEPT + ["x", "y", "f", "t", "v", "d", "i", "0", "new"])):
            for at in range(len(words) + 1):
                self.compare(words[:at] + [other] + words[at:])
                self.compare(words[:at] + [other] + words[at + 1:])

    def compare(self, words):
        text = " ".join(words)
        self.assertEqual(refused_at(self.system, text), edit_oracle(TEXT, text), text)


class TouchesTest(unittest.TestCase):
    def setUp(self):
        self.system = read_system(TEXT)
        self.ground = first_ground(self.system)

    def check(self, paper, expected):
        """The edits that touch the paper are just those that give one of the procedures of these numbers."""
        copied = ([*paper[0]], [*paper[1]])
        for numbers in ((), (0,), (1,), (2,), (3,), (4,), (0, 1), (4, 2), (1, 3, 0), (2, 4, 3)):
            told = touches(self.system, edit_of(*numbers), paper)
            self.assertIs(told, any(number in expected for number in numbers), numbers)
        self.assertEqual(paper, copied)

    def frame(self, procedure):
        return (procedure, 0, (), 0)

    def line(self, entry, frame, *posted):
        tasks = tuple((procedure, (), 0) for procedure in posted)
        return (self.frame(entry), self.ground, self.frame(frame), self.ground, tasks, False)

    def node(self, *procedures):
        return (self.ground, tuple(((procedure, (), number), 1) for number, procedure in enumerate(procedures)))

    def test_nothing(self):
        self.check(([], []), ())
        self.check(([], [self.node()]), ())

    def test_the_frames_of_a_line(self):
        for number in range(5):
            self.check(([self.line(number, number)], []), (number,))
            self.check(([self.line(number, 2)], []), (number, 2))
            self.check(([self.line(1, number)], []), (1, number))
            self.check(([self.line(3, 3), self.line(3, 3), self.line(number, number)], []), (3, number))

    def test_the_tasks_of_a_line(self):
        for number in range(5):
            self.check(([self.line(0, 0, number)], []), (0, number))
            self.check(([self.line(0, 0, 2, 3, number)], []), (0, 2, 3, number))
            self.check(([self.line(0, 0, number, 3)], []), (0, 3, number))
            self.check(([self.line(0, 0), self.line(0, 0, number)], []), (0, number))

    def test_the_tasks_of_a_node(self):
        for number in range(5):
            self.check(([], [self.node(number)]), (number,))
            self.check(([], [self.node(2, 3, number)]), (2, 3, number))
            self.check(([], [self.node(number, 3)]), (3, number))
            self.check(([], [self.node(), self.node(number)]), (number,))
            self.check(([], [(self.ground, (((number, (), 0), None),))]), (number,))

    def test_lines_and_nodes(self):
        self.check(([self.line(0, 1), self.line(0, 0)], [self.node(2), self.node(2, 3)]), (0, 1, 2, 3))

    def test_procedures_that_there_are_not(self):
        self.check(([self.line(5, 6), self.line(-1, -5), self.line(100, 100)], [self.node(5, 7)]), ())
        self.check(([self.line(0, 5, -2)], [self.node(-1, 3)]), (0, 3))

    def test_an_edit_that_does_not_fit(self):
        for paper in (([], []), ([self.line(0, 0)], []), ([], [self.node(2)]), ([self.line(9, 9)], [self.node(9)])):
            for text, at in (("edit", 1), ("edit body z begin end end", 2), ("edit body t begin end body t", 6),
                             ("edit body t begin end end end", 6)):
                with self.assertRaises(SpeakError) as caught:
                    touches(self.system, text, paper)
                self.assertIs(type(caught.exception), Misfit)
                self.assertEqual(caught.exception.at, at)


if __name__ == "__main__":
    unittest.main()

"""Points [9] to [12], and of point [1] that what is handed out is always new: nobodyspeaks/systems.py."""

import unittest

from samples import EMPTY, FULL

from nobodyspeaks.errors import Missing
from nobodyspeaks.reading import read_system

FULL_TOLD = (
    [("answer", ["yea", "nay"]), ("topic", ["sale", "spam", "work", "talk"])],
    ["mail", "web"],
    ["boss", "clerk"],
    [("last", "topic"), ("note", "text")],
    [("send", ["topic", "answer"]), ("ring", []), ("file", ["topic", "topic"])],
    [
        ("sort", "function", [("t", "text")], "topic"),
        ("pick", "function", [("k", "topic"), ("a", "answer")], "answer"),
        ("main", "task", [], None),
        ("tell", "task", [("k", "topic"), ("t", "text"), ("a", "answer")], None),
    ],
    2,
    2,
)


class ToldTest(unittest.TestCase):
    def test_a_system_with_all_parts(self):
        told = read_system(FULL).told()
        self.assertIs(type(told), tuple)
        self.assertEqual(told, FULL_TOLD)

    def test_an_empty_system(self):
        self.assertEqual(read_system(EMPTY).told(), ([], [], [], [], [], [], 0, 0))

    def test_each_member_alone(self):
        for row, at, member in (
            ("domain d a b end", 0, [("d", ["a", "b"])]),
            ("domain d b a c end domain a d b end", 0, [("d", ["b", "a", "c"]), ("a", ["d", "b"])]),
            ("channel c", 1, ["c"]),
            ("channel z channel y channel a", 1, ["z", "y", "a"]),
            ("person p", 2, ["p"]),
            ("person z person a", 2, ["z", "a"]),
            ("cell c text", 3, [("c", "text")]),
            ("cell z text cell a text", 3, [("z", "text"), ("a", "text")]),
            ("tool t end", 4, [("t", [])]),
            ("tool z end tool a end", 4, [("z", []), ("a", [])]),
            ("task t end body t begin end", 5, [("t", "task", [], None)]),
            ("function f gives text body f begin end", 5, [("f", "function", [], "text")]),
            ("policy end", 6, 1),
            ("policy end policy end policy end", 6, 3),
        ):
            expected = [[], [], [], [], [], [], 0, 0]
            expected[at] = member
            self.assertEqual(read_system(f"system {row} end").told(), tuple(expected), row)

    def test_the_kinds_of_members(self):
        head = "system domain d a b end domain e x y end "
        told = read_system(head + "cell c d cell b text cell a e end").told()
        self.assertEqual(told[3], [("c", "d"), ("b", "text"), ("a", "e")])
        told = read_system(head + "tool t e d end tool u d d end tool w d end end").told()
        self.assertEqual(told[4], [("t", ["e", "d"]), ("u", ["d", "d"]), ("w", ["d"])])

    def test_procedures_tell_their_parameters_alone(self):
        told = read_system(
            "system domain d a b end task t y d x text end function f gives d task u end "
            "body t y d x text z d begin end body f q d begin end body u y text begin end "
            "start u end start u end start u end end"
        ).told()
        self.assertEqual(told[5], [("t", "task", [("y", "d"), ("x", "text")], None), ("f", "function", [], "d"),
                                   ("u", "task", [], None)])
        self.assertEqual(told[7], 3)

    def test_what_is_handed_out_is_new_each_time(self):
        system = read_system(FULL)
        told = system.told()
        for at in range(6):
            self.assertIs(type(told[at]), list)
            self.assertIsNot(told[at], system.told()[at])
        told[0][0][1].append("maybe")
        told[0][1][1].clear()
        told[4][0][1].pop()
        told[5][0][2].append(("x", "text"))
        told[5][2][2].append(("x", "text"))
        for at in range(6):
            told[at].reverse()
            told[at].pop()
            told[at].append("x")
        self.assertEqual(system.told(), FULL_TOLD)
        self.assertEqual(system.text(), FULL)
        self.assertEqual(read_system(system.text()).told(), FULL_TOLD)


class CodeTest(unittest.TestCase):
    """The variables of the bodies are x, y (of d), z (of e), s, r (texts), by these numbers."""

    HEAD = (
        "system domain d a b c end domain e m n end channel c0 channel c1 channel c2 person p0 person p1 "
        "cell i text cell j d cell l e tool o end tool q e d end tool h d end "
        "task t end function f gives d function g v d w text gives text task u s text x e end "
        "body t x d y d z e s text r text begin {} end body f x d y d z e s text r text begin {} end "
        "body g v d w text begin end body u s text x e begin end end"
    )

    def code(self, row, procedure="t"):
        rows = (row, "") if procedure == "t" else ("", row)
        return read_system(self.HEAD.format(*rows)).code(procedure)

    def check(self, row, *expected, procedure="t"):
        self.assertEqual(self.code(row, procedure), [*expected, ("end",)], row)

    def test_each_form_of_a_statement(self):
        for row, expected in (
            ("read s c0", ("read", 3, 0)),
            ("read r c2", ("read", 4, 2)),
            ("choose x from end", ("choose", 0, ())),
            ("choose z from y end", ("choose", 2, (1,))),
            ("choose y from r x r end", ("choose", 1, (4, 0, 4))),
            ("write s from end", ("write", 3, ())),
            ("write r from z s end", ("write", 4, (2, 3))),
            ("take y s", ("take", 1, 3)),
            ("trust z r", ("trust", 2, 4)),
            ("set x a", ("set", 0, 0)),
            ("set y c", ("set", 1, 2)),
            ("set z n", ("set", 2, 1)),
            ("copy x y", ("copy", 0, 1)),
            ("copy r s", ("copy", 4, 3)),
            ("keep i s", ("keep", 0, 3)),
            ("keep l z", ("keep", 2, 2)),
            ("recall y j", ("recall", 1, 1)),
            ("recall z l", ("recall", 2, 2)),
            ("call y f end", ("call", 1, 1, ())),
            ("call s g x r end", ("call", 3, 2, (0, 4))),
            ("do o with end", ("do", 0, (), ())),
            ("do q z y with r end", ("do", 1, (2, 1), (4,))),
            ("do h y with s s end", ("do", 2, (1,), (3, 3))),
        ):
            self.check(row, expected)
            self.check(row, expected, procedure="f")

    def test_those_of_tasks_and_of_functions_alone(self):
        self.check("post t end", ("post", 0, ()))
        self.check("post u r z end", ("post", 3, (4, 2)))
        self.check("ask p0 t end", ("ask", 0, 0, ()))
        self.check("ask p1 u s z end", ("ask", 1, 3, (3, 2)))
        self.check("return y", ("return", 1), procedure="f")

    def test_a_body_without_statements(self):
        self.check("")
        system = read_system(self.HEAD.format("", ""))
        for name in ("t", "f", "g", "u"):
            self.assertEqual(system.code(name), [("end",)])

    def test_statements_in_a_row(self):
        self.check("set x a set y b set x c", ("set", 0, 0), ("set", 1, 1), ("set", 0, 2))
        self.check("return x return y", ("return", 0), ("return", 1), procedure="f")

    def test_ifs_without_else(self):
        self.check("if x b end", ("branch", 0, 1, 2), ("jump", 2))
        self.check("if z n set x a end", ("branch", 2, 1, 3), ("set", 0, 0), ("jump", 3))
        self.check("if y c set x a set x b end", ("branch", 1, 2, 4), ("set", 0, 0), ("set", 0, 1), ("jump", 4))
        self.check("if x b else end", ("branch", 0, 1, 2), ("jump", 2))

    def test_ifs_with_else(self):
        self.check("if x a else set x b end", ("branch", 0, 0, 2), ("jump", 3), ("set", 0, 1))
        self.check("if x a set x b else set x c end",
                   ("branch", 0, 0, 3), ("set", 0, 1), ("jump", 4), ("set", 0, 2))
        self.check("if x a set x b set y b else set x c set y c set y a end",
                   ("branch", 0, 0, 4), ("set", 0, 1), ("set", 1, 1), ("jump", 7), ("set", 0, 2), ("set", 1, 2),
                   ("set", 1, 0))

    def test_ifs_among_others(self):
        self.check("set x a if x a set x b end set x c",
                   ("set", 0, 0), ("branch", 0, 0, 4), ("set", 0, 1), ("jump", 4), ("set", 0, 2))
        self.check("if x a end if x b end", ("branch", 0, 0, 2), ("jump", 2), ("branch", 0, 1, 4), ("jump", 4))
        self.check("set x a if x a set x b else set x c set y c end if y a end set y b",
                   ("set", 0, 0), ("branch", 0, 0, 4), ("set", 0, 1), ("jump", 6), ("set", 0, 2), ("set", 1, 2),
                   ("branch", 1, 0, 8), ("jump", 8), ("set", 1, 1))

    def test_ifs_one_in_another(self):
        self.check("if x a if y b set x b end else if z m else set x c end end",
                   ("branch", 0, 0, 5), ("branch", 1, 1, 4), ("set", 0, 1), ("jump", 4), ("jump", 8),
                   ("branch", 2, 0, 7), ("jump", 8), ("set", 0, 2))
        self.check("if x a if x a if x a if x a end end end end",
                   ("branch", 0, 0, 8), ("branch", 0, 0, 7), ("branch", 0, 0, 6), ("branch", 0, 0, 5),
                   ("jump", 5), ("jump", 6), ("jump", 7), ("jump", 8))
        self.check("if x a else if x b else if x c else set x a end end end",
                   ("branch", 0, 0, 2), ("jump", 7), ("branch", 0, 1, 4), ("jump", 7), ("branch", 0, 2, 6), ("jump", 7),
                   ("set", 0, 0))
        self.check("if x a set y a if y a set y b else set y c end set z n else set z m end return x",
                   ("branch", 0, 0, 8), ("set", 1, 0), ("branch", 1, 0, 5), ("set", 1, 1), ("jump", 6), ("set", 1, 2),
                   ("set", 2, 1), ("jump", 9), ("set", 2, 0), ("return", 0), procedure="f")

    def test_missing_for_a_name_that_is_no_procedure(self):
        system = read_system(self.HEAD.format("", ""))
        for name in ("d", "a", "c0", "p0", "i", "o", "x", "r", "stranger", "", "end", "T", "tt", "body", "t "):
            with self.assertRaises(Missing) as caught:
                system.code(name)
            self.assertIs(type(caught.exception), Missing, name)
        with self.assertRaises(Missing):
            read_system(EMPTY).code("t")

    def test_a_variable_of_the_name_of_a_procedure_is_none(self):
        text = "system channel c task t end task u end body t u text begin read u c end body u begin end end"
        self.assertEqual(read_system(text).code("u"), [("end",)])

    def test_the_list_is_new_each_time(self):
        system = read_system(FULL)
        for name in ("sort", "pick", "main", "tell"):
            code = system.code(name)
            self.assertIs(type(code), list)
            self.assertTrue(all(type(row) is tuple for row in code))
            expected = list(code)
            code.reverse()
            code.append(("end",))
            self.assertEqual(system.code(name), expected)

    def test_interface(self):
        self.assertEqual(read_system(FULL).code(procedure="tell"), [("end",)])

    def test_a_whole_body(self):
        self.assertEqual(read_system(FULL).code("sort"), [
            ("take", 1, 0), ("trust", 1, 0), ("write", 2, (0, 1, 2)), ("branch", 1, 1, 7), ("copy", 2, 0), ("return",
            1), ("jump", 8), ("set", 1, 2), ("recall", 1, 0), ("return", 1), ("end",),
        ])
        self.assertEqual(read_system(FULL).code("main"), [
            ("read", 1, 0), ("read", 3, 1), ("choose", 0, (1, 3, 2)), ("choose", 2, ()), ("write", 3, ()),
            ("call", 0, 0, (1,)), ("keep", 0, 0), ("recall", 0, 0), ("keep", 1, 1), ("recall", 1, 1),
            ("branch", 0, 1, 12), ("jump", 17), ("branch", 2, 0, 15), ("post", 3, (0, 1, 2)), ("jump", 17),
            ("ask", 0, 3, (0, 1, 2)), ("ask", 1, 2, ()), ("do", 0, (0, 2), (1,)), ("do", 1, (), ()),
            ("do", 2, (0, 0), (1, 1)), ("end",),
        ])


class PointsTest(unittest.TestCase):
    def test_a_system_without_uses(self):
        self.assertEqual(read_system(EMPTY).points(), [])
        self.assertEqual(read_system("system tool o end task t end body t begin end end").points(), [])

    def test_procedure_by_procedure_places_rising_within_ifs_too(self):
        system = read_system(
            "system domain d a b end tool o end tool q d end task z end function f gives d task b x d end "
            "body z x d begin do o with end set x a do q x with end if x a do o with end if x b do o with end end "
            "else do q x with end end do o with end end "
            "body f x d begin set x a do o with end return x do o with end end "
            "body b x d begin if x a else do q x with end end end end"
        )
        expected = [("z", 0), ("z", 2), ("z", 4), ("z", 6), ("z", 9), ("z", 10), ("f", 1), ("f", 3), ("b", 2)]
        self.assertEqual(system.points(), expected)
        for name, place in expected:
            self.assertEqual(system.code(name)[place][0], "do")

    def test_all_parts(self):
        self.assertEqual(read_system(FULL).points(), [("main", 17), ("main", 18), ("main", 19)])

    def test_the_list_is_new_each_time(self):
        system = read_system(FULL)
        points = system.points()
        self.assertIs(type(points), list)
        points.clear()
        self.assertEqual(len(system.points()), 3)


if __name__ == "__main__":
    unittest.main()

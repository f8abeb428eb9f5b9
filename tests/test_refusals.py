"""Point [8]: texts that are refused, each at just the word that a > stands ahead of (alone: at the end of the text)."""

import unittest

from samples import EMPTY, FULL, check_read, check_refused, refused_at

from nobodyspeaks.errors import Misfit
from nobodyspeaks.names import is_name
from nobodyspeaks.reading import read_system

BAD_WORDS = ["Mail", "maiL", "thirteensigns", "2mail", "9", "-", "a-b", "a_b", "a.b", "#", "~", "mail!", "(", "a1B"]


class Refusals(unittest.TestCase):
    def no(self, *marked):
        for text in marked:
            with self.subTest(text=text):
                check_refused(self, text)

    def yes(self, *texts):
        for text in texts:
            with self.subTest(text=text):
                check_read(self, text)


class TextsTest(Refusals):
    def test_a_misfit_tells_the_number_of_the_word(self):
        with self.assertRaises(Misfit) as caught:
            read_system("system channel a channel a end")
        self.assertEqual(caught.exception.at, 4)
        self.assertIs(type(caught.exception.at), int)

    def test_a_text_without_words(self):
        for text in ("", " ", "        "):
            self.assertEqual(refused_at(text), 0)

    def test_cut_off_at_each_place(self):
        for text in (FULL, EMPTY):
            words = text.split()
            for many in range(len(words)):
                self.assertEqual(refused_at(" ".join(words[:many])), many, words[:many])
                self.assertEqual(refused_at("  " + "   ".join(words[:many]) + " "), many)

    def test_words_behind_the_last_end(self):
        self.no("system end >end", "system end >system end", "system end >x y z", "system channel c end >channel d end")
        for word in ("end", "system", "x", "X", "start", "9"):
            self.assertEqual(refused_at(FULL + " " + word), len(FULL.split()))
            self.assertEqual(refused_at(FULL + " " + word + " end end"), len(FULL.split()))

    def test_the_first_word(self):
        self.no(">end", ">domain d a b end end", ">System end", ">systems end", ">system1 end", ">edit end")
        self.no("system >system end", "system >systemend", "system >x end", "system >edit end")

    def test_other_white_space_separates_nothing(self):
        for blank in ("\t", "\n", "\r", "\x0b", "\x0c", "\xa0"):
            self.assertEqual(refused_at("system" + blank + "end"), 0)
            self.assertEqual(refused_at("system channel a" + blank + "b end"), 2)
            self.assertEqual(refused_at("system end" + blank), 1)
            self.assertEqual(refused_at("system end " + blank), 2)

    def test_the_number_is_that_of_the_word_whatever_blanks_stand_there(self):
        self.assertEqual(refused_at("   system    channel   Mail  end"), 2)
        self.assertEqual(refused_at("system channel mail   channel     mail end"), 4)

    def test_the_first_of_several_wrong_words(self):
        self.no("system channel >Mail channel Mail domain", "system cell c >d cell c d")


class NamesTest(Refusals):
    def test_a_word_that_can_stand_nowhere(self):
        words = FULL.split()
        for bad in BAD_WORDS:
            for at in range(len(words)):
                changed = words[:at] + [bad] + words[at + 1:]
                self.assertEqual(refused_at(" ".join(changed)), at, (bad, at))

    def test_no_name_where_a_name_stands(self):
        for bad in BAD_WORDS:
            self.no(
                f"system domain >{bad} a b end end", f"system domain d >{bad} b end end",
                f"system domain d a >{bad} end", f"system channel >{bad} end", f"system person >{bad} end",
                f"system cell >{bad} text end", f"system tool >{bad} end end", f"system function >{bad} gives text",
                f"system task >{bad} end", f"system task t >{bad} text end",
                f"system task t end body t >{bad} text begin end end",
            )

    def test_a_kept_word_as_a_name(self):
        kept = [word for word in set(FULL.split()) if not is_name(word) and word not in "1234"] + ["edit", "cut"]
        self.assertEqual(len(kept), 42)
        for word in sorted(kept):
            self.no(
                f"system domain >{word} a b end end", f"system domain d >{word} b end end",
                f"system domain d a >{word} b end" if word != "end" else "system domain d a >end b end",
                f"system channel >{word} end", f"system person >{word} end", f"system cell >{word} text end",
                f"system tool >{word} end end", f"system function >{word} gives text", f"system task >{word} end",
            )
            if word != "end":
                self.no(f"system domain d a b >{word} end end", f"system task t >{word} text end")
            if word != "gives":
                self.no(f"system function f >{word} text gives text")
            if word != "begin":
                self.no(f"system task t end body t >{word} text begin end end")

    def test_a_name_of_a_part_that_is_taken(self):
        head = "system domain d a b end "
        self.no(head + "domain >d a b end", head + "channel >d", head + "person >d", head + "cell >d text",
                head + "tool >d end", head + "function >d gives text", head + "task >d end")
        rows = ["domain x a b end", "channel x", "person x", "cell x text", "tool x end", "task x end"]
        for at, row in enumerate(rows):
            for other in rows[at:] + ["function x gives text"]:
                self.no("system " + row + " " + other.replace(" x", " >x", 1))
        self.no("system function x gives text task >x end", "system task x end function >x gives text")
        self.no("system function x gives text function >x gives text", "system task x end task y end task >x end")
        self.no("system channel a channel b channel c person d cell >b text")

    def test_a_word_that_is_taken_in_its_domain(self):
        self.no("system domain d a >a end", "system domain d a b >a end", "system domain d a b >b end",
                "system domain d a b c >a end", "system domain d a b c >c end")
        self.yes("system domain d a b end domain e b a end end", "system domain d d e end domain e e d end end")

    def test_a_variable_that_is_taken_in_its_body(self):
        self.no("system task t x text >x text end", "system task t x text y text >x text end",
                "system function f x text >x text gives text", "system domain d a b end task t x d >x text end")
        self.no("system task t x text end body t x text >x text begin end end",
                "system task t x text end body t x text y text >y text begin end end",
                "system task t end body t x text y text >x text begin end end")
        self.yes("system task t x text end task u x text end body t x text y text begin end "
                 "body u x text y text begin end end")


class LimitsTest(Refusals):
    def limit(self, ahead, rows, most, behind, first=""):
        """So many of the rows are read; one more is refused at its first word."""
        self.yes(*[" ".join([ahead, *rows[:many], behind]) for many in range(most + 1)])
        marked = [row.split() for row in rows[:most + 1]]
        marked[most][0] = ">" + marked[most][0]
        self.no(" ".join([ahead] + [" ".join(row) for row in marked] + [behind]))

    def test_domains(self):
        self.limit("system", [f"domain d{n} a b end" for n in range(5)], 4, "end")

    def test_words_of_a_domain(self):
        self.no("system domain d >end end", "system domain d a >end end", "system domain d a b c e >f end end")
        self.yes("system domain d a b end end", "system domain d a b c end end", "system domain d a b c e end end")

    def test_channels(self):
        self.limit("system", [f"channel c{n}" for n in range(7)], 6, "end")

    def test_persons(self):
        self.limit("system", [f"person p{n}" for n in range(4)], 3, "end")

    def test_cells(self):
        self.limit("system", [f"cell c{n} text" for n in range(5)], 4, "end")

    def test_tools(self):
        self.limit("system", [f"tool t{n} end" for n in range(5)], 4, "end")

    def test_domains_of_a_tool(self):
        self.limit("system domain d a b end tool t", ["d", "d", "d"], 2, "end end")

    def test_procedures(self):
        for heads in (["task"] * 7, ["function"] * 7, ["task", "function"] * 4, ["function", "task", "task"] * 3):
            rows = [f"task t{n} end" if word == "task" else f"function t{n} gives text" for n, word in enumerate(heads)]
            bodies = [f"body t{n} begin end" for n in range(7)]
            for many in range(7):
                self.yes(" ".join(["system", *rows[:many], *bodies[:many], "end"]))
            self.no(" ".join(["system", *rows[:6], ">" + rows[6], *bodies, "end"]))

    def test_parameters(self):
        rows = [f"x{n} text" for n in range(5)]
        for many in range(5):
            row = " ".join(rows[:many])
            self.yes(f"system task t {row} end body t {row} begin end end",
                     f"system function t {row} gives text body t {row} begin end end")
        row = " ".join(rows[:4])
        self.no(f"system task t {row} >x4 text end", f"system function t {row} >x4 text gives text",
                f"system task t {row} >gives text", f"system function t {row} >end")

    def test_variables(self):
        rows = [f"x{n} text" for n in range(7)]
        for parameters in range(5):
            row = " ".join(rows[:parameters])
            self.limit(f"system task t {row} end body t {row}", rows[parameters:], 6 - parameters, "begin end end")

    def test_statements(self):
        head = "system domain d a b end function f gives d body f x d begin"
        self.limit(head, ["set x a"] * 31, 30, "end end")
        self.limit(head, ["return x", "copy x x"] * 16, 30, "end end")

    def test_statements_within_ifs_count_and_so_do_the_ifs(self):
        head = "system domain d a b end task t end body t x d begin"
        self.limit(head + " if x a", ["set x a"] * 30, 29, "end end end")
        self.limit(head + " if x a else", ["set x a"] * 30, 29, "end end end")
        self.limit(head + " if x a set x a set x b else set x a end if x b set x b else end", ["set x a"] * 25, 24,
                   "end end")
        self.limit(head + " if x a if x a if x a if x a", ["set x a"] * 27, 26, "end end end end end end")
        ifs = " ".join(["if x a end"] * 30)
        self.yes(f"{head} {ifs} end end")
        self.no(f"{head} {ifs} >if x a end end end", f"{head} {ifs} >set x a end end")
        self.no(head + " set x a" * 29 + " if x a >set x a end end end")
        self.no(head + " set x a" * 29 + " if x a else >set x a end end end")
        self.yes(head + " set x a" * 29 + " if x a else end end end")

    def test_each_body_has_30_of_its_own(self):
        row = "set x a " * 30
        self.yes("system domain d a b end task t end task u end "
                 f"body t x d begin {row} end body u x d begin {row} end end")

    def test_ifs_one_in_another(self):
        head = "system domain d a b end task t end body t x d begin "
        self.yes(head + "if x a " * 4 + "set x a " + "end " * 6)
        self.yes(head + "if x a else " * 4 + "set x a " + "end " * 6)
        self.yes(head + "if x a if x a end if x a if x a if x b end end end end if x a end end end")
        self.no(head + "if x a " * 4 + ">if x a " + "end " * 7)
        self.no(head + "if x a else " * 4 + ">if x a " + "end " * 7)
        self.no(head + "if x a if x a else if x a if x b end if x a >if x a end end end end end end end",
                head + "if x a if x a else if x a if x b end if x a else >if x a end end end end end end end")
        self.yes(head + "if x a if x a else if x a if x b end if x a else end end end end end end")

    def test_variables_shown(self):
        head = "system domain d a b end task t end body t x d s text begin "
        for word in ("choose x", "write s"):
            self.limit(f"{head} {word} from", ["x", "s", "x", "s"], 3, "end end end")
            self.limit(f"{head} {word} from", ["x"] * 4, 3, "end end end")

    def test_texts_of_a_use(self):
        head = "system domain d a b end tool o d end tool q end task t end body t x d s text begin "
        self.limit(head + "do o x with", ["s", "s", "s"], 2, "end end end")
        self.limit(head + "do q with", ["s", "s", "s"], 2, "end end end")

    def test_lines_yes(self):
        self.limit("system person p task t end body t begin end", ["yes p t end"] * 7, 6, "end")

    def test_policies(self):
        self.limit("system", ["policy end"] * 4, 3, "end")

    def test_rules(self):
        self.limit("system tool o end policy", ["allow o anyone always", "deny o nobody 1"] * 4, 6, "end end")
        row = "policy " + "allow o anyone always " * 6 + "end "
        self.yes("system tool o end " + row * 3 + "end")

    def test_channels_of_a_rule(self):
        head = "system channel c channel d tool o end policy allow o from"
        self.no(head + " >end always end end")
        self.yes(*[head + " c" * many + " end always end end" for many in range(1, 7)])
        self.no(head + " c" * 6 + " >c end always end end", head + " c d" * 3 + " >d end always end end")

    def test_starts(self):
        self.limit("system task t end body t begin end", ["start t end"] * 5, 4, "end")


class PartsTest(Refusals):
    def test_parts_out_of_order(self):
        rows = [
            "domain d a b end", "channel c", "person p", "cell l text", "tool o end", "task t end", "body t begin end",
            "yes p t end", "policy end", "start t end",
        ]
        self.yes(" ".join(["system", *rows, "end"]))
        for at in range(1, len(rows)):
            for earlier in range(at):
                # Once the part has stood, one that must stand ahead of it has come too late.
                row = rows[earlier].replace(" ", " other", 1) if earlier < 6 else rows[earlier]
                self.no(" ".join(["system", *rows[:at + 1], ">" + row, *rows[at + 1:], "end"]))

    def test_a_part_too_early(self):
        self.no("system >body t begin end end", "system yes >p t end end",
                "system start >t end end", "system task t end >yes p t end end", "system task t end >policy end end",
                "system task t end >start t end end", "system task t end >end", "system >begin", "system >x")

    def test_kinds(self):
        self.no("system cell c >d end", "system cell c >c end", "system cell c >any end", "system task t x >d end",
                "system function f gives >d", "system function f x >f gives text", "system task t end body t x >d",
                "system channel c cell d >c end", "system domain d a b end cell c >a end",
                "system domain d a b end task t x >a end")
        self.yes("system domain d a b end cell c d cell e text end")

    def test_domains_of_tools(self):
        self.no("system tool t >text end end", "system tool t >d end end", "system channel c tool t >c end end",
                "system domain d a b end tool t >a end end", "system domain d a b end tool t d >t end end",
                "system domain d a b end tool t d >text end end", "system domain d a b end tool t >d2 end end")

    def test_heads(self):
        self.no("system task t >gives text", "system function f >end", "system function f gives >end",
                "system task t x >end", "system function f x >gives text", "system task t x text >gives text",
                "system function f x text >end")


class BodiesTest(Refusals):
    HEAD = "system domain d a b end domain e y n end task t x d s text end function f gives d "
    BODIES = "body t x d s text begin end body f begin end "

    def test_right_ones(self):
        self.yes(self.HEAD + self.BODIES + "end")
        self.yes(self.HEAD + "body t x d s text z e begin end body f x d begin return x end end")

    def test_a_body_of_another_name(self):
        head = self.HEAD
        self.no(head + "body >f begin end body t x d s text begin end end", head + "body >u x d s text begin end",
                head + "body t x d s text begin end body >t x d s text begin end end", head + "body >d begin end",
                head + "body t x d s text begin end body >begin end end", head + "body >x begin")

    def test_a_body_that_is_missing(self):
        head = self.HEAD
        self.no(head + ">end", head + ">policy end end", head + ">start t end",
                head + "body t x d s text begin end >end", head + "body t x d s text begin end >policy end end",
                head + "body t x d s text begin end >start f end end", head + "body t x d s text begin end >yes p")

    def test_a_body_too_many(self):
        self.no(self.HEAD + self.BODIES + ">body f begin end end", self.HEAD + self.BODIES + ">body t x d s text begin")

    def test_other_parameters_other_kinds_another_order(self):
        head = self.HEAD
        self.no(head + "body t >begin end", head + "body t x d >begin end", head + "body t >z d s text begin end",
                head + "body t x d >z text begin end", head + "body t x >e s text begin end",
                head + "body t x >text s text begin end", head + "body t x d s >d begin end",
                head + "body t >s text x d begin end", head + "body t x d >z e s text begin end",
                head + "body t x d s text >x d begin end", head + "body t x d s text z >begin end")

    def test_the_end_of_a_body(self):
        head = self.HEAD
        self.no(head + "body t x d s text begin >body f begin end end", head + "body t x d s text begin >else end",
                head + "body t x d s text begin >begin end", head + "body t x d s text >end",
                head + "body t x d s text begin if x a end >else end")


class StatementsTest(Refusals):
    """Variables: x and y of d, z of e, s and r texts. Functions f and h give d, g gives text."""

    HEAD = (
        "system domain d a b end domain e y n end channel c person p cell i d cell j text cell l e "
        "tool o d e end tool q end task t v d w text end task u end function f v d w text gives d "
        "function g gives text body t v d w text x d z e s text r text begin {} end body u begin end "
        "body f v d w text x d z e s text r text begin {} end body g s text begin end end"
    )

    def right(self, *rows):
        for row in rows:
            self.yes(self.HEAD.format(row, ""), self.HEAD.format("", row))

    def wrong(self, *rows):
        for row in rows:
            self.no(self.HEAD.format(row, ""), self.HEAD.format("", row))

    def in_task(self, *rows):
        self.no(*[self.HEAD.format(row, "") for row in rows])

    def in_function(self, *rows):
        self.no(*[self.HEAD.format("", row) for row in rows])

    def test_words_that_begin_no_statement(self):
        self.wrong(">x", ">cut x", ">begin", ">with", ">from", ">else", ">a", ">c", ">t", ">f", ">always", ">any",
                   ">edit", ">branch", ">jump", "set x a >x", "set x a >else end", ">Set x a", ">trusts x s")

    def test_read(self):
        self.right("read s c", "read r c", "read w c")
        self.wrong("read >x c", "read >z c", "read >k c", "read >c s", "read s >s", "read s >d", "read s >p",
                   "read s >i", "read s >t", "read s >a", "read s >text", "read >text c", "read s >end", "read s c >c")

    def test_choose_and_write(self):
        self.right("choose x from end", "choose z from s x end", "choose x from x x x end", "write s from end",
                   "write s from z x s end", "write w from r r r end")
        self.wrong("choose >s from end", "choose >k from end", "choose x >s end", "choose x from >k end",
                   "choose x from x >a end", "choose x from s >c end", "choose x >end", "choose >from end",
                   "choose x from >from end", "choose x from s >set x a")
        self.wrong("write >x from end", "write >z from end", "write >k from end", "write s >x end",
                   "write s from >k end", "write s from x >any end", "write s from s >with end", "write s >end")

    def test_take_and_trust(self):
        for word in ("take", "trust"):
            self.right(f"{word} x s", f"{word} z r", f"{word} v w")
            self.wrong(f"{word} >s s", f"{word} >k s", f"{word} x >x", f"{word} x >z", f"{word} x >k", f"{word} x >c",
                       f"{word} >a s", f"{word} x >end", f"{word} x s >s")

    def test_set(self):
        self.right("set x a", "set x b", "set z y", "set z n", "set v a")
        self.wrong("set >s a", "set >k a", "set x >y", "set x >n", "set z >a", "set x >x", "set x >any", "set x >k",
                   "set x >s", "set >a x", "set x >d", "set x a >b", "set x >end")

    def test_copy(self):
        self.right("copy x v", "copy x x", "copy s r", "copy w w", "copy z z")
        self.wrong("copy x >z", "copy x >s", "copy s >x", "copy z >x", "copy z >r", "copy >k x", "copy x >k",
                   "copy >a a", "copy x >a", "copy x >end", "copy >i x", "copy x >i")

    def test_keep(self):
        self.right("keep i x", "keep i v", "keep j s", "keep l z")
        self.wrong("keep >x x", "keep >k x", "keep >c s", "keep i >s", "keep i >z", "keep j >x", "keep l >x",
                   "keep l >s", "keep i >k", "keep i >a", "keep i >i", "keep >o x", "keep >p x", "keep i >end",
                   "keep >x i")

    def test_recall(self):
        self.right("recall x i", "recall s j", "recall z l")
        self.wrong("recall >k i", "recall x >j", "recall x >l", "recall s >i", "recall z >i", "recall z >j",
                   "recall x >x", "recall x >k", "recall x >c", "recall x >o", "recall >i x", "recall >a i",
                   "recall x >end")

    def test_if(self):
        self.right("if x a end", "if z n end", "if x a set x b end", "if x a else end",
                   "if x a set x a else set x b end")
        self.wrong("if >s a end", "if >k a end", "if x >y end", "if z >a end", "if x >x end", "if x >any end",
                   "if x >end", "if >a x end", "if x a else >else end", "if x a set x b else set x b >else end",
                   "if x a >x end", "if x a >begin end", "if x a end >else end",
                   "if x a set x >y end", "if x a else set x >y end", "if x a else set >k a end")

    def test_call(self):
        self.right("call x f v s end", "call v f x w end", "call s g end", "call x f x s end")
        self.wrong("call >k f v s end", "call >f x v s end", "call s >f v s end", "call z >f v s end", "call x >g end",
                   "call z >g end", "call x >t v s end", "call x >u end", "call s >t v s end", "call x >k end",
                   "call x >o end", "call x >x end", "call x f >s v end", "call x f >z s end", "call x f v >v end",
                   "call x f >k s end", "call x f v >k end", "call x f >end", "call x f v >end", "call x f v s >s end",
                   "call s g >s end", "call x f >a s end", "call x f v s >set x a", "call x >end")

    def test_post(self):
        self.yes(self.HEAD.format("post t v w end post t x s end post u end", ""))
        self.in_task("post >f v w end", "post >g end", "post >k end", "post >x end", "post >o end", "post t >w v end",
                     "post t >z w end", "post t v >x end", "post t >k w end", "post t v >k end", "post t >end",
                     "post t v >end", "post t v w >w end", "post u >v end", "post t >a w end", "post >end",
                     "post t v w >set x a", "if x a post t v >z end end")
        self.in_function(">post t v w end", ">post u end", "if x a >post u end end", "if x a else >post u end end",
                         "set x a >post u end", ">post")

    def test_ask(self):
        self.yes(self.HEAD.format("ask p t v w end ask p t x s end ask p u end", ""))
        self.in_task("ask >k t v w end", "ask >t t v w end", "ask >c u end", "ask p >f v w end", "ask p >g end",
                     "ask p >k end", "ask p >p end", "ask p t >w v end", "ask p t >z w end", "ask p t v >x end",
                     "ask p t >k w end", "ask p t v >k end", "ask p t >end", "ask p t v >end", "ask p t v w >w end",
                     "ask p u >v end", "ask >end", "ask p >end", "ask p t v w >set x a", "ask >x u end")
        self.in_function(">ask p t v w end", ">ask p u end", "if x a >ask p u end end", "if x a else >ask p u end end",
                         ">ask")

    def test_do(self):
        self.right("do o x z with end", "do o v z with s end", "do o x z with s r end", "do q with end",
                   "do q with s end")
        self.wrong("do >k x z with end", "do >f with end", "do >x with end", "do >c with end", "do o >z x with end",
                   "do o >s z with end", "do o >k z with end", "do o x >x with end", "do o x >s with end",
                   "do o x >k with end", "do o >with end", "do o x >with end", "do o x z >end", "do o x z >s end",
                   "do o x z with >x end", "do o x z with >k end", "do o x z with s >z end",
                   "do o x z with s >with end", "do q >x with end", "do q >end", "do q with >x end",
                   "do o >a y with end", "do >end", "do q with s r >s end", "do q with s >set x a")

    def test_return(self):
        self.yes(self.HEAD.format("", "return x"), self.HEAD.format("", "return v return x if x a return v end"))
        self.in_function("return >s", "return >z", "return >k", "return >a", "return >end", "return x >x")
        self.in_task(">return x", ">return", "if x a >return x end", "if x a else >return x end", "set x a >return s")
        head = "system domain d a b end function f gives text body f x d s text begin return "
        self.yes(head + "s end end")
        self.no(head + ">x end end")

    def test_no_variables_of_other_bodies(self):
        head = "system domain d a b end task t x d end task u y d end body t x d begin end body u y d begin "
        self.no(head + "set >x a end end", head + "post t >x end end end", head + "copy y >x end end")

    def test_in_a_system_without_such_parts(self):
        head = "system function f gives text body f s text begin "
        self.no(head + "read s >c", head + "keep >i s", head + "recall s >i", head + "do >o with end",
                head + "take >s s",
                head + "set >s a", head + "choose >s from end", head + "if >s a end", head + "call s >g end",
                "system task t end body t begin ask >p t end")


class BehindBodiesTest(Refusals):
    HEAD = (
        "system domain d a b end domain e y n end channel c channel m person p tool o d e end tool q end "
        "task t v d w text end task u end task k v d x e end function f gives d "
        "body t v d w text begin end body u begin end body k v d x e begin end body f begin end "
    )

    def right(self, *rows):
        self.yes(*[self.HEAD + row + " end" for row in rows])

    def wrong(self, *rows):
        self.no(*[self.HEAD + row + " end" for row in rows])

    def test_lines_yes(self):
        self.right("yes p t a any end", "yes p t any any end", "yes p u end", "yes p k a y end", "yes p k any n end",
                   "yes p k b any end")
        self.wrong("yes >k t a any end", "yes >t p a any end", "yes >c u end", "yes p >f end", "yes p >k2 end",
                   "yes p >o end", "yes p >end", "yes p t >y any end", "yes p t >c any end", "yes p t >v any end",
                   "yes p t >text any end", "yes p t >end", "yes p t a >end", "yes p t a any >any end",
                   "yes p u >any end", "yes p k a >a end", "yes p k >y any end", "yes p k a y >n end")

    def test_a_text_in_a_pattern(self):
        self.wrong("yes p t a >a end", "yes p t a >y end", "yes p t a >text end", "yes p t a >w end", "yes p t a >end",
                   "yes p t any >b end")

    def test_starts(self):
        self.right("start u end", "start k a y end", "start k b n end")
        self.wrong("start >f end", "start >k2 end", "start >o end", "start >end", "start k >y a end",
                   "start k >any y end", "start k a >any end", "start k a >a end", "start k >end", "start k a >end",
                   "start k a y >n end", "start u >a end", "start k >v x end", "start k >text y end")

    def test_a_start_of_a_task_that_has_a_text(self):
        self.wrong("start t a >any end", "start t a >text end", "start t a >end", "start t a >a end",
                   "start t b >w end", "start t a >y end", "start t a >s end", "start t >end", "start t >y any end")
        self.no(self.HEAD + "start t a >", self.HEAD + "start t >")
        head = "system domain d a b end task t w text x d end body t w text x d begin end start t "
        self.no(head + ">a end end", head + ">any a end end", head + ">text a end end", head + ">end end")

    def test_rules(self):
        self.right("policy end", "policy allow o a y anyone always end", "policy deny o any any nobody 1 end",
                   "policy allow q from c end 4 end", "policy allow q from m c m end 2 deny q anyone 3 end")
        self.wrong("policy >yes end", "policy >o a y anyone always end", "policy allow >k anyone always end",
                   "policy allow >c anyone always end", "policy allow >end", "policy allow o >y a anyone always end",
                   "policy allow o >c y anyone always end", "policy allow o a >a anyone always end",
                   "policy allow o a >anyone always end", "policy allow o >nobody always end",
                   "policy allow o a y >any anyone always end", "policy allow o a y >always end",
                   "policy allow q >a anyone always end", "policy allow q >any anyone always end",
                   "policy allow o >text y anyone always end", "policy allow o a >text anyone always end")

    def test_who_of_a_rule(self):
        self.wrong("policy allow q >c always end", "policy allow q >always end", "policy allow q >end",
                   "policy allow q from >end always end", "policy allow q from >k end always end",
                   "policy allow q from >p end always end", "policy allow q from >any end always end",
                   "policy allow q from >nobody end always end", "policy allow q from c >always end",
                   "policy allow q from c >d end always end", "policy allow q from c >from end always end",
                   "policy allow q anyone >nobody always end", "policy allow q from c m >o end 1 end")

    def test_how_often_of_a_rule(self):
        self.wrong("policy allow q anyone >0 end", "policy allow q anyone >5 end", "policy allow q anyone >end",
                   "policy allow q anyone >01 end", "policy allow q anyone >11 end", "policy allow q anyone >any end",
                   "policy allow q anyone >allow q anyone always end", "policy allow q anyone always >always end",
                   "policy allow q anyone 1 >2 end", "policy allow q anyone >c end", "policy allow q anyone >-1 end",
                   "policy allow q anyone always >q end", "policy allow q anyone 3 >policy end")


if __name__ == "__main__":
    unittest.main()

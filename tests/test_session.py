"""Points 71 to 75: sessions, line by line."""

import unittest

from helpers import RIGHTS
from whoevermay.bench import Workbench
from whoevermay.charters import Charter
from whoevermay.notation import format_charter, parse_charter
from whoevermay.plans import plan_text
from whoevermay.reach import can_come
from whoevermay.session import Session

CLUB = "rights member key\nsole\nfounder ann : key\nfounder bob :\njoin enter : member\ngive teach key : key : member :"
HUT = "rights a b\nsole\nfounder cid : a\nclaim grab b : a :"
BLOCK = f"charter club\n{CLUB}\ndone"
WHEEL = format_charter(Charter(rights=RIGHTS, founders=[("ann", [])],
                               rules=[("give", f"g{at}x{step}", [RIGHTS[(at + step) % 6]], [], [], RIGHTS[at])
                                      for at in range(6) for step in (1, 2)]))


class Sessions(unittest.TestCase):
    def setUp(self):
        self.session = Session()
        self.bench = self.session.bench

    def assert_told(self, text, *lines):
        """The lines that the text answers, in the session that is under way."""
        told = self.session.run(text)
        self.assertEqual(told, list(lines))
        self.assertIs(type(told), list)

    def club(self):
        self.assert_told(BLOCK, "ok", "ok")
        return format_charter(self.bench.charter("club"))


class Blocks(Sessions):
    def test_a_new_session(self):
        self.assertIsInstance(self.bench, Workbench)
        self.assertEqual((self.bench.charter_names(), self.bench.question_names()), ([], []))
        self.assertIsNot(Session().bench, self.bench)

    def test_the_empty_text(self):
        for text in ("", " ", "\n", "  \n\n   "):
            self.assert_told(text)

    def test_a_block(self):
        self.assert_told("charter club", "ok")
        self.assertEqual(self.bench.charter_names(), [])
        for line in CLUB.split("\n"):
            self.assert_told(line)
            self.assertEqual(self.bench.charter_names(), [])
        self.assert_told("done", "ok")
        self.assertEqual(self.bench.charter_names(), ["club"])
        self.assertEqual(format_charter(self.bench.charter("club")), CLUB)

    def test_a_block_in_one_text(self):
        self.assertEqual(self.club(), CLUB)
        self.assert_told(f"charter hut\n{HUT}\ndone\n{BLOCK}", "ok", "ok", "ok", "ok")
        self.assertEqual(self.bench.charter_names(), ["club", "hut"])

    def test_the_example(self):
        self.assert_told("charter club\nrights member key\nsole\nfounder ann : key\njoin enter : member\ngive teach key : key : member :\n"
                         "done\nask q club anybody with member key\nask r club ann with member\nanswers",
                         "ok", "ok", "ok", "ok", "q: comes 1", "r: never")

    def test_spaces_and_lines_without_words(self):
        spaced = "\n\n  \n".join(["   " + line.replace(" ", "   ") + "  " for line in CLUB.split("\n")])
        self.assert_told(f"  charter   club  \n\n{spaced}\n \n   done ", "ok", "ok")
        self.assertEqual(format_charter(self.bench.charter("club")), CLUB)

    def test_a_block_over_several_calls(self):
        lines = BLOCK.split("\n")
        for many in range(1, len(lines)):
            session = Session()
            self.assertEqual(session.run("\n".join(lines[:many])), ["ok"])
            self.assertEqual(session.run(""), [])
            self.assertEqual(session.run("\n".join(lines[many:])), ["ok"])
            self.assertEqual(format_charter(session.bench.charter("club")), CLUB)

    def test_every_line_is_taken(self):
        for line in ("undo", "answers", "charter hut", "done now", "done done", "not done", "Done", "done\t", "show charters", "strange: line", "\t"):
            session = Session()
            self.assertEqual(session.run(f"charter club\n{line}"), ["ok"])
            self.assertEqual(session.run("done"), ["line 1: invalid notation 1"])
            self.assertEqual((session.bench.charter_names(), session.run("done")), ([], ["line 1: invalid command"]))

    def test_lines_that_would_be_commands_may_be_lines_of_a_charter(self):
        # The kinds of rules are the first words of lines, and drop is a command, too.
        self.assert_told("charter club\nrights a\nsole\ndrop q a : :\ndone\nprint club", "ok", "ok", "rights a", "sole", "drop q a : :")
        self.assert_told("drop q", "line 1: unknown name q")

    def test_done_alone(self):
        self.assert_told("charter club\ndone", "ok", "line 2: invalid notation 1")
        self.assert_told("charter club\n\n \ndone", "ok", "line 4: invalid notation 1")
        self.assert_told("charter club", "ok")
        self.assert_told("\ndone", "line 2: invalid notation 1")
        self.assertEqual(self.bench.charter_names(), [])

    def test_lines_that_are_no_written_form(self):
        for lines, number in [("rights a", 2), ("sole", 1), ("rights a\nrights b", 2), ("rights a\nsole\njoin j :\nfounder ann :", 4),
                              ("rights A\nsole", 1), ("rights a\nsole\nclaim c a :", 3), ("rights a\nsole\nfounder ann", 3),
                              ("rights a\n\nsole\n\njoin j : :", 3), ("rights a\nsole\n\tjoin j :", 3), ("rights a\nsole\tb", 2),
                              ("rights a\nsole\njoin j :\nundo", 4)]:
            self.assert_told(f"charter club\n{lines}\ndone", "ok", f"line {len(lines.splitlines()) + 2}: invalid notation {number}")
            self.assertEqual(self.bench.charter_names(), [])
            self.assert_told("done", "line 1: invalid command")

    def test_lines_that_write_no_charter(self):
        for lines in ("rights\nsole", "rights a\nsole b", "rights a\nsole\njoin j : b", "rights a a\nsole", "rights a b\nsole a\nclaim c a : :",
                      "rights a\nsole\nfounder ann : a a", "rights a b c d e f g\nsole"):
            self.assert_told(f"charter club\n{lines}\ndone", "ok", f"line {len(lines.splitlines()) + 2}: invalid charter")
            self.assertEqual(self.bench.charter_names(), [])
            self.assert_told("done", "line 1: invalid command")

    def test_a_charter_that_was_set_before_stays(self):
        before = self.club()
        for lines in ("rights", "rights a\nsole b", ""):
            self.session.run(f"charter club\n{lines}\ndone")
            self.assertEqual(format_charter(self.bench.charter("club")), before)
        self.assert_told("undo\nundo", "ok", "line 2: nothing to undo")

    def test_a_charter_that_was_set_before_is_replaced(self):
        self.club()
        self.assert_told(f"charter club\n{HUT}\ndone\nprint club", "ok", "ok", *HUT.split("\n"))
        self.assert_told("undo\nprint club", "ok", *CLUB.split("\n"))

    def test_a_block_behind_a_block_takes_its_own_lines(self):
        self.session.run("charter club\nrights a")
        self.assert_told("done", "line 1: invalid notation 2")
        self.assert_told("charter hut\nsole\ndone", "ok", "line 3: invalid notation 1")
        self.assert_told(f"charter hut\n{HUT}\ndone\nprint hut", "ok", "ok", *HUT.split("\n"))

    def test_reserved_words_in_a_charter(self):
        text = "rights with and\nsole and\nfounder anybody : with\njoin without : with"
        self.assert_told(f"charter club\n{text}\ndone\nprint club", "ok", "ok", *text.split("\n"))
        self.assertEqual(parse_charter(text).rights, ("with", "and"))


class Commands(Sessions):
    def setUp(self):
        super().setUp()
        self.club()

    def test_cut(self):
        self.assert_told("cut club enter\nprint club", "ok", *[line for line in CLUB.split("\n") if "enter" not in line])
        self.assert_told("cut club enter\ncut none teach\ncut none none\n cut  club   teach ", "line 1: unknown name enter",
                         "line 2: unknown name none", "line 3: unknown name none", "ok")
        self.assertEqual(self.bench.charter("club").rule_names, ())

    def test_ask(self):
        self.assert_told("ask q club anybody with key member without member", "line 1: invalid goal")
        self.assert_told("ask q club anybody with key member and ann without member trusting bob ann bob", "ok")
        self.assertEqual(self.bench.question("q"), ("club", ((None, ("member", "key"), ()), ("ann", (), ("member",))), ("bob", "ann", "bob")))
        self.assert_told("ask q club bob", "ok")
        self.assertEqual(self.bench.question("q"), ("club", (("bob", (), ()),), ()))

    def test_errors_of_questions(self):
        self.assert_told("ask q none zoe with nil trusting yan\nask q club zoe with nil trusting yan\nask q club ann with nil trusting yan\n"
                         "ask q club ann and ann trusting yan\nask q club ann and bob trusting bob yan\n"
                         "ask q club anybody and anybody and anybody and anybody\nask q club ann with key without key\nask q club ann with key key",
                         "line 1: unknown name none", "line 2: unknown name zoe", "line 3: unknown name nil", "line 4: invalid goal",
                         "line 5: unknown name yan", "line 6: invalid goal", "line 7: invalid goal", "line 8: invalid goal")
        self.assertEqual(self.bench.question_names(), [])

    def test_drop_and_remove(self):
        self.assert_told("ask q club ann\nremove club\ndrop q\ndrop q\nremove club\nremove club", "ok", "line 2: name in use club", "ok",
                         "line 4: unknown name q", "ok", "line 6: unknown name club")
        self.assertEqual((self.bench.charter_names(), self.bench.question_names()), ([], []))

    def test_undo_and_redo(self):
        self.assert_told("ask q club ann\nundo\nshow questions\nredo\nshow questions", "ok", "ok", "questions:", "ok", "questions: q")
        self.assert_told("undo\nundo\nundo\nshow charters\nredo\nshow charters\nredo\nredo", "ok", "ok", "line 3: nothing to undo", "charters:",
                         "ok", "charters: club", "ok", "line 8: nothing to redo")
        self.assert_told("undo\ncut club teach\nredo", "ok", "ok", "line 3: nothing to redo")

    def test_undo_within_a_block_is_a_line(self):
        self.assert_told("charter hut", "ok")
        self.assert_told("undo\ndone\nshow charters", "line 2: invalid notation 1", "charters: club")
        self.assert_told(f"charter hut\n{HUT}\ndone\nundo\nshow charters\nredo\nshow charters", "ok", "ok", "ok", "charters: club", "ok",
                         "charters: club hut")

    def test_the_first_line_of_a_block_is_no_change(self):
        self.assert_told("undo\ncharter hut", "ok", "ok")
        self.assert_told("rights\ndone\nredo\nshow charters", "line 2: invalid notation 2", "ok", "charters: club")

    def ask_all_forms(self):
        self.session.run(f"charter wheel\n{WHEEL}\ndone\nask c club anybody with member key\nask n club bob with member\n"
                         "ask m wheel anybody with a b c and anybody with d e f\nask u club bob without key")
        self.assert_told(f"charter old\n{CLUB}\ndone\nask f old ann with key\ncharter old\n{HUT}\ndone", "ok", "ok", "ok", "ok", "ok")

    def test_answer(self):
        self.ask_all_forms()
        self.assert_told("answer c\nanswer n\nanswer m\nanswer f\nanswer u", "c: comes 1", "n: never", "m: many 2000", "f: unfit", "u: comes 0")
        self.assert_told("answer none\nanswer club", "line 1: unknown name none", "line 2: unknown name club")

    def test_answers(self):
        self.assert_told("answers")
        self.ask_all_forms()
        self.assert_told("answers", "c: comes 1", "f: unfit", "m: many 2000", "n: never", "u: comes 0")

    def test_plan(self):
        self.ask_all_forms()
        plan = can_come(self.bench.charter("club"), [(None, ["member", "key"], [])])
        self.assertEqual(len(plan.actions), 2)
        self.assert_told("plan c", "c: comes 1", *plan_text(plan.actions).split("\n"))
        self.assert_told("plan n\nplan m\nplan f", "n: never", "m: many 2000", "f: unfit")
        self.assert_told("plan none", "line 1: unknown name none")

    def test_a_plan_without_actions(self):
        self.assert_told("ask q club bob without key\nplan q\nanswer q", "ok", "q: comes 0", "q: comes 0")

    def test_a_plan_with_trusted_founders(self):
        self.assert_told(f"charter club\n{CLUB}\nfounder cid : key\ndone", "ok", "line 9: invalid notation 7")
        self.assert_told("charter club\nrights member key\nsole\nfounder ann : key\nfounder bob : key\nfounder cid : member\n"
                         "give teach key : key : member :\ndone\nask q club cid with key trusting ann\nplan q", "ok", "ok", "ok",
                         "q: comes 1", "teach bob cid")
        self.assert_told("ask q club cid with key trusting bob\nplan q\nask q club cid with key trusting bob ann\nplan q", "ok", "q: comes 1",
                         "teach ann cid", "ok", "q: never")

    def test_a_plan_of_joins_alone(self):
        lines = self.session.run("ask q club anybody with member\nplan q")
        self.assertEqual(lines[:2], ["ok", "q: comes 0"])
        self.assertEqual(len(lines), 3)
        self.assertEqual(lines[2].split(" ")[0], "enter")

    def test_the_counts_of_the_bench(self):
        self.assert_told("ask q club ann with key\nask r club ann with key\nask s club bob", "ok", "ok", "ok")
        for text, decided, kept in (("answer q", 1, 0), ("plan q", 1, 1), ("plan r", 1, 2), ("answers", 2, 4), ("answer s", 2, 5),
                                    ("show questions\nprint club\nshow charters", 2, 5), ("answer none\nplan none", 2, 5),
                                    ("undo\nredo\ndrop s", 2, 5), ("plan q", 2, 6), ("answers", 2, 8)):
            self.session.run(text)
            self.assertEqual((self.bench.decided, self.bench.kept), (decided, kept), text)

    def test_plan_is_an_asking_of_its_own(self):
        self.session.run("ask q club anybody with member key\nplan q")
        self.assertEqual((self.bench.decided, self.bench.kept), (1, 0))

    def test_show(self):
        self.assert_told("show charters\nshow questions", "charters: club", "questions:")
        self.assert_told(f"charter abbey\n{HUT}\ndone\ncharter z\n{HUT}\ndone\nask r club ann\nask b z cid\nask b0 abbey cid", *["ok"] * 7)
        self.assert_told("show charters\nshow questions", "charters: abbey club z", "questions: b b0 r")
        self.assertEqual(Session().run("show charters\nshow questions"), ["charters:", "questions:"])

    def test_print(self):
        self.assert_told("print club", *CLUB.split("\n"))
        self.assert_told("print none\nprint hut", "line 1: unknown name none", "line 2: unknown name hut")
        self.assert_told("charter hut\nrights b a\nsole b\nfounder ann : a b\ntake t a : b : :  b\ndone\nprint hut", "ok", "ok", "rights b a",
                         "sole b", "founder ann : b a", "take t a : b : : b")


class Numbers(Sessions):
    def test_numbers_of_lines(self):
        self.assert_told("\n\nnone\n  \nundo\nredo\n\n answer q", "line 3: invalid command", "line 5: nothing to undo", "line 6: nothing to redo",
                         "line 8: unknown name q")

    def test_numbers_begin_anew_in_each_call(self):
        for _ in range(3):
            self.assert_told("undo\nundo", "line 1: nothing to undo", "line 2: nothing to undo")

    def test_the_number_of_done(self):
        self.assert_told("undo\ncharter club\n\nrights a\n\nsole\nsole\n\ndone", "line 1: nothing to undo", "ok", "line 9: invalid notation 3")
        self.assert_told("\ncharter club\nrights a", "ok")
        self.assert_told("\n\nsole b\n\ndone", "line 5: invalid charter")

    def test_lines_after_an_error_are_done(self):
        self.assert_told(f"none\n{BLOCK}\nask q club zoe\nask q club ann\nremove club\nanswers", "line 1: invalid command", "ok", "ok",
                         "line 10: unknown name zoe", "ok", "line 12: name in use club", "q: comes 0")

    def test_words_that_are_no_command(self):
        self.club()
        before = (self.bench.charter_names(), self.bench.question_names())
        for line in ("done", "charter", "charter a b", "charter with", "charter Club", "cut club", "ask q club", "ask q club ann with", "drop",
                     "undo now", "redo now", "answers q", "answer", "plan", "plan q r", "show", "show rules", "print", "rights a", "UNDO",
                     "undo\t", "\tundo", "ask q none zoe with", "drop and", "print anybody", "cut none with", "answer abcdefghijklm",
                     "ask q club ann trusting", "ask anybody club ann", "remove", "remove club club", "join", "\r", "undo\r"):
            self.assert_told(f"\n{line}", "line 2: invalid command")
        self.assertEqual((self.bench.charter_names(), self.bench.question_names()), before)
        self.assert_told("undo\nundo", "ok", "line 2: nothing to undo")

    def test_lines_are_separated_by_newlines_alone(self):
        for sign in "\r\v\f\x1c\x85\u2028":
            self.assert_told(f"undo{sign}undo", "line 1: invalid command")


if __name__ == "__main__":
    unittest.main()

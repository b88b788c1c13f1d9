import unittest

from flowform.comparing import compare
from flowform.errors import (
    FlagTwice, FlowError, NoStatement, OutsideOfLoop, TextError, TooLarge, TooManyConfigurations, TooManyFlags,
    TooManyNodes, TooManyVersions, TryInFinally, UnknownFlag,
)
from flowform.flows import flow_graph
from flowform.paths import replaced, statement_at, walk
from flowform.reader import read_program
from flowform.sessions import Session, reduced, redundant
from tests.helpers import A, B, ResolvedMaker, raised, with_names

WAIT = ("call", "wait")
BEFORE = read_program("for (;;) { if (ready()) { work(); continue; } else wait(); }")
FOUR_FLAGS = "let a = true; let b = true; let c = true; let d = true; "

# Texts for which flow_graph raises an error, with the error.
WRONG = (
    ("f = true;", UnknownFlag), ("let f = true; let f = true;", FlagTwice), ("break;", OutsideOfLoop),
    (FOUR_FLAGS + "let e = true;", TooManyFlags), ("try {} finally { try {} finally {} }", TryInFinally),
    (FOUR_FLAGS + "a();" * 32, TooManyConfigurations), ("a();" * 40, TooManyNodes),
)


def plain_redundant(program):
    """Return what [201] says, by trying each statement alone."""
    flow = flow_graph(program)
    found = []
    for path, _ in walk(program):
        try:
            if flow_graph(replaced(program, path, ())) == flow:
                found.append(path)
        except FlowError:
            pass
    return tuple(sorted(found))


class RedundantTest(unittest.TestCase):
    """Points [201] and [205]: redundant statements."""

    def check(self, text, *paths):
        self.assertEqual(redundant(read_program(text)), paths)
        self.assertEqual(plain_redundant(read_program(text)), paths)

    def test_examples(self):
        self.assertEqual(redundant(BEFORE), ((0, 0, 0, 0, 1),))
        self.check("while (a()) { break; break; }", (0, 0, 0), (0, 0, 1))
        self.check("let on = true; if (on) a();")

    def test_programs_without_a_redundant_statement(self):
        for text in ("", "a();", "while (a()) b();", "return;", "return 7;", "break x;", "for (;;) {}",
                     "if (a()) b(); else c();", "for (;;) { if (a()) break; b(); }"):
            self.check(text)

    def test_jumps(self):
        self.check("while (a()) { b(); continue; }", (0, 0, 1))
        self.check("for (;;) { if (a()) { b(); break; } c(); }")
        self.check("a(); return; return;", (1,), (2,))
        self.check("return; b(); c();", (1,), (2,))
        self.check("x: while (a()) { while (b()) continue; continue x; }", (0, 0, 0, 0, 0), (0, 0, 1))
        self.check("for (;;) { for (;;) break; a(); }", (0, 0, 0))

    def test_loops_conditions_and_blocks(self):
        self.check("if (a()) {}")
        self.check("let f = true; if (f) {} a();", (1,))
        self.check("{ a(); } {} b();", (1,))
        self.check("let f = true; while (f) f = false; a();", (1,))
        self.check("try {} finally {} a();", (0,))
        self.check("try { a(); } finally { return; } b();", (1,))
        self.check("for (;;) { for (;;) {} }", (0, 0, 0))
        self.check("for (;;) { for (;;) { break; } }", (0, 0, 0), (0, 0, 0, 0, 0))

    def test_flags(self):
        self.check("let f = true; f = true; while (a()) if (f) b();", (1,))
        self.check("let f = true; f = false; f = true; if (f) a();", (1,))
        self.check("let f = true; a();", (0,))
        self.check("let f = true; f = false; a();", (1,))
        self.check("let f = true; { let f = true; if (f) a(); } if (f) b();", (1, 0, 0))
        self.check("let f = true; { let f = false; if (f) a(); } b();", (0,), (1,), (1, 0, 1), (1, 0, 1, 0, 0))

    def test_removals_whose_result_raises_an_error(self):
        self.check("let f = true; if (f) a();")
        self.check("return; for (;;) { break; }", (1,), (1, 0, 0))
        for text, error in (
            ("let f = true; if (f) a(); b();", UnknownFlag), ("{ let f = true; } let f = true; f = true;", UnknownFlag),
        ):
            program = read_program(text)
            errors = {raised(flow_graph, replaced(program, path, ())).__class__ for path, _ in walk(program)}
            self.assertIn(error, errors)
            self.assertEqual(redundant(program), plain_redundant(program))
        # Without the break there are too many nodes.
        program = read_program("for (;;) { break; " + "".join(f"c{n}();" for n in range(41)) + " } d();")
        self.assertIs(raised(flow_graph, replaced(program, (0, 0, 0), ())).__class__, TooManyNodes)
        self.assertEqual(redundant(program), ((0,),) + tuple((0, 0, number) for number in range(1, 42)))

    def test_paths_are_in_ascending_order(self):
        program = read_program("return; " + "a();" * 11 + "if (b()) { c(); } else { d(); e(); }")
        found = redundant(program)
        self.assertEqual(found, tuple((number,) for number in range(1, 13)) + (
            (12, 0, 0), (12, 1, 0), (12, 1, 1)))
        self.assertEqual(found, tuple(sorted(found)))

    def test_many_programs(self):
        found = 0
        for seed in range(150):
            program = with_names(ResolvedMaker(seed, 1).body(3), 1)
            if raised(flow_graph, program) is None:
                self.assertEqual(redundant(program), plain_redundant(program))
                found += len(redundant(program)) > 0
        self.assertGreater(found, 50)

    def test_errors(self):
        for text, error in WRONG:
            self.assertIs(raised(redundant, read_program(text)).__class__, error)
            self.assertIs(raised(reduced, read_program(text)).__class__, error)


class ReducedTest(unittest.TestCase):
    """Points [201] and [205]: reduced programs."""

    def check(self, text, left, *paths):
        self.assertEqual(reduced(read_program(text)), (read_program(left), paths))

    def test_example(self):
        self.assertEqual(reduced(read_program("while (a()) { break; break; }")), (
            (("while", None, A, (("break", None),)),), ((0, 0, 0),)))

    def test_nothing_to_remove(self):
        for text in ("", "a();", "while (a()) b();", "let on = true; if (on) a();", "for (;;) {}"):
            self.check(text, text)

    def test_each_path_is_one_of_the_program_from_which_it_was_removed(self):
        self.check("return; a(); b(); c();", "return;", (1,), (1,), (1,))
        self.check("while (a()) { b(); continue; continue; }", "while (a()) { b(); }", (0, 0, 1), (0, 0, 1))
        self.check("return; if (a()) { b(); c(); } d();", "return;", (1,), (1,))
        self.check("while (a()) { {} b(); continue; } {}", "while (a()) b();", (0, 0, 0), (0, 0, 1), (1,))

    def test_what_was_not_redundant_before(self):
        # The declaration can go only when the if behind it has gone, and then it is the first one.
        self.check("let f = true; if (f) {} {} a();", "a();", (1,), (0,), (0,))
        self.check("let f = true; a(); f = false;", "a();", (2,), (0,))

    def test_what_is_not_redundant_any_more(self):
        self.check("return; return;", "return;", (0,))
        self.check("for (;;) { for (;;) {} }", "for (;;) {}", (0, 0, 0))

    def test_many_programs(self):
        found = 0
        for seed in range(120):
            program = with_names(ResolvedMaker(seed, 1).body(3), 1)
            if raised(flow_graph, program) is not None:
                continue
            left, paths = reduced(program)
            current = program
            for path in paths:
                self.assertEqual(path, plain_redundant(current)[0])
                current = replaced(current, path, ())
            self.assertEqual(current, left)
            self.assertEqual(plain_redundant(left), ())
            self.assertEqual(flow_graph(left), flow_graph(program))
            found += len(paths) > 1
        self.assertGreater(found, 40)


class SessionTest(unittest.TestCase):
    """Points [202] to [205]."""

    def check(self, session, *versions):
        """Check all that can be asked of a session; what is passed are its versions."""
        self.assertEqual(session.versions, versions)
        self.assertEqual(session.program, versions[-1])
        self.assertEqual(len(session), len(versions))
        self.assertEqual({flow_graph(version) for version in versions}, {session.flow})
        steps = list(session)
        self.assertEqual(len(steps), len(versions) - 1)
        for one, other, (path, statements) in zip(versions, versions[1:], steps):
            self.assertEqual(replaced(one, path, statements), other)

    def test_example(self):
        session = Session(BEFORE)
        self.check(session, BEFORE)
        second = replaced(BEFORE, (0, 0, 0, 0, 1), ())
        self.assertIsNone(session.replace_at((0, 0, 0, 0, 1), ()))
        self.check(session, BEFORE, second)
        self.assertEqual(session.replace_at((0, 0, 0, 1, 0), (WAIT, WAIT)),
                         ((False, True), ("ready", "wait"), "ready()", "wait()"))
        self.check(session, BEFORE, second)
        self.assertIsNone(session.replace_text((0, 0, 0), "while (ready()) work(); wait();"))
        third = (("for", None, (("while", None, ("call", "ready"), (("call", "work"),)), WAIT)),)
        self.check(session, BEFORE, second, third)
        self.assertEqual(list(session), [((0, 0, 0, 0, 1), ()), ((0, 0, 0), third[0][2])])
        self.assertEqual((len(session), session.undo(), len(session), session.redo(), session.redo(), len(session)),
                         (3, True, 2, True, False, 3))
        self.check(session, BEFORE, second, third)

    def test_new_sessions(self):
        for text in ("", "a();", "let f = true; while (f && a()) f = false;", "try { return; } finally { a(); }"):
            program = read_program(text)
            session = Session(program)
            self.check(session, program)
            self.assertEqual(session.flow, flow_graph(program))
            self.assertEqual(list(session), [])
            self.assertIs(session.undo(), False)
            self.assertIs(session.redo(), False)
            self.check(session, program)

    def test_what_session_raises(self):
        for text, error in WRONG:
            self.assertIs(raised(Session, read_program(text)).__class__, error)
        self.assertEqual(raised(Session, read_program("a();" * 50)).count, 51)

    def test_replacements_that_keep_the_behaviour(self):
        for text, path, new in (
            ("a(); b();", (0,), "{ a(); }"), ("a();", (0,), "if (a()) {}"), ("while (a()) b();", (0,),
             "for (;;) { if (!a()) break; b(); }"), ("while (a()) { b(); }", (0, 0, 0), "b(); continue;"),
            ("x: while (a()) { b(); }", (0, 0, 0), "b(); continue x;"), ("return; a();", (1,), "b(); c(); break z;"),
            ("let f = true; a(); if (f) b();", (1,), "if (a()) f = true;"), ("{}", (0,), ""),
            ("let f = true; { a(); }", (1, 0, 0), "let f = false; if (f) b(); a();"),
            ("try { a(); } finally { b(); }", (0, 1, 0), "if (b()) {} else {}"),
        ):
            program = read_program(text)
            for use_text in (True, False):
                session = Session(program)
                if use_text:
                    self.assertIsNone(session.replace_text(path, new), (text, new))
                else:
                    self.assertIsNone(session.replace_at(path, read_program(new)), (text, new))
                self.check(session, program, replaced(program, path, read_program(new)))
                self.assertEqual(list(session), [(path, read_program(new))])

    def test_replacements_that_change_the_behaviour(self):
        for text, path, new, difference in (
            ("a();", (0,), "b();", ((), (), "a()", "b()")), ("a();", (0,), "", ((), (), "a()", "end")),
            ("a();", (0,), "a(); a();", ((True,), ("a",), "end", "a()")),
            ("while (a()) b();", (0, 0, 0), "b(); b();", ((True, True), ("a", "b"), "a()", "b()")),
            ("while (a()) b();", (0, 0, 0), "if (b()) break;", ((True, True), ("a", "b"), "a()", "end")),
            ("while (a()) b();", (0, 0, 0), "if (b()) {} else break;", ((True, False), ("a", "b"), "a()", "end")),
            ("return;", (0,), "return 0;", ((), (), "return", "return 0")),
            ("x: while (a()) { b(); }", (0, 0, 0), "b(); break x;", ((True, True), ("a", "b"), "a()", "end")),
            ("while (a()) { b(); }", (0, 0, 0), "b(); break x;", ((True, True), ("a", "b"), "a()", "break x")),
            ("a();", (0,), "a(); for (;;) {}", ((True,), ("a",), "end", "hang")),
        ):
            program = read_program(text)
            session = Session(program)
            self.assertEqual(session.replace_text(path, new), difference)
            self.assertEqual(session.replace_at(path, read_program(new)), difference)
            changed = replaced(program, path, read_program(new))
            self.assertEqual(compare(flow_graph(program), flow_graph(changed)), difference)
            self.check(session, program)
            self.assertIs(session.redo(), False)

    def test_names_are_resolved_in_the_changed_program(self):
        program = read_program("let f = true; x: while (a()) { b(); }")
        session = Session(program)
        self.assertIsNone(session.replace_text((1, 0, 0), "if (f) b(); else c(); continue x;"))
        self.assertIs(raised(session.replace_text, (1, 0, 0), "if (g) b();").__class__, UnknownFlag)
        self.assertEqual(raised(session.replace_text, (1, 0, 0), "if (g) b();").name, "g")
        # Taken alone the statements would raise an error, or have another behaviour.
        self.assertIsNone(Session(program).replace_text((1, 0, 0), "b(); continue;"))
        self.assertIs(raised(Session(program).replace_text, (0,), "let f = false; let f = true;").__class__, FlagTwice)

    def test_errors_and_their_order(self):
        program = read_program("let f = true; while (f) { a(); break; }")
        session = Session(program)
        session.replace_text((1, 0, 0), "{ a(); }")
        session.replace_text((1, 0, 0), "a();")
        session.undo()
        versions = session.versions
        steps = list(session)
        large = (("if", A, (A,) * 100, (B,) * 90),)
        for path, statements, error in (
            ((7,), (("break", None),), NoStatement), ((), (), NoStatement), ((1, 0), (), NoStatement),
            ((1, 1, 0), large, NoStatement), ((0, 0, 0), (), NoStatement),
            ((1,), large * 2, TooLarge), ((1, 0, 0), large + (("set", "g", True),) + (A,) * 9, TooLarge),
            ((0,), (), UnknownFlag), ((0,), (("let", "f", True),) * 2, FlagTwice), ((1,), (("break", None),), OutsideOfLoop),
            ((1,), tuple(("let", f"f{number}", True) for number in range(4)), TooManyFlags),
            ((1,), (("try", (), (("try", (), ()),)),), TryInFinally),
            ((1,), (("let", "g", True),) + (A,) * 150, TooManyConfigurations), ((1,), (A,) * 45, TooManyNodes),
        ):
            self.assertIs(raised(session.replace_at, path, statements).__class__, error, (path, statements))
            self.assertEqual(session.versions, versions)
            self.assertEqual(list(session), steps)
        # After all these errors, the undo can still be taken back.
        self.assertIs(session.redo(), True)
        self.assertEqual(len(session), 3)

    def test_what_replace_text_raises_first(self):
        session = Session((A,))
        for text, reason in (("a()", "expected ;"), ("?", "unexpected character"), ("}", "expected a statement")):
            for path in ((0,), (5,), ()):
                error = raised(session.replace_text, path, text)
                self.assertIs(error.__class__, TextError)
                self.assertEqual(error.reason, reason)
        self.assertIs(raised(session.replace_text, (5,), "a();" * 201).__class__, TooLarge)
        self.assertIs(raised(session.replace_text, (5,), "a();" * 200).__class__, NoStatement)
        self.assertIs(raised(session.replace_text, (5,), "break;").__class__, NoStatement)
        self.assertIs(raised(session.replace_text, (0,), "break;").__class__, OutsideOfLoop)
        self.check(session, (A,))

    def fill(self, session, many):
        """Accept replacements until there are so many versions."""
        while len(session) < many:
            one, other = (A,), (("block", (A,)),)
            self.assertIsNone(session.replace_at((0,), other if session.program == one else one))

    def test_twenty_versions(self):
        session = Session((A,))
        self.fill(session, 19)
        self.assertIsNone(session.replace_at((0,), (A,)))
        self.assertEqual(len(session), 20)
        versions = session.versions
        self.check(session, *versions)
        self.assertIs(raised(session.replace_at, (0,), (A,)).__class__, TooManyVersions)
        self.assertIs(raised(session.replace_text, (0,), "{ a(); }").__class__, TooManyVersions)
        # Everything else comes before this error.
        self.assertEqual(session.replace_at((0,), (B,)), ((), (), "a()", "b()"))
        self.assertIs(raised(session.replace_at, (3,), (A,)).__class__, NoStatement)
        self.assertIs(raised(session.replace_text, (0,), "break;").__class__, OutsideOfLoop)
        self.check(session, *versions)
        self.assertIs(session.undo(), True)
        self.assertEqual(len(session), 19)
        self.assertIsNone(session.replace_text((0,), "a(); {}"))
        self.assertEqual(len(session), 20)
        self.check(session, *versions[:-1], (A, ("block", ())))
        self.assertIs(raised(session.replace_at, (1,), ()).__class__, TooManyVersions)

    def test_undo_and_redo_with_twenty_versions(self):
        session = Session((A,))
        self.fill(session, 20)
        versions, steps = session.versions, list(session)
        for many in range(19, 0, -1):
            self.assertIs(session.undo(), True)
            self.check(session, *versions[:many])
        for _ in range(2):
            self.assertIs(session.undo(), False)
            self.check(session, (A,))
        for many in range(2, 21):
            self.assertIs(session.redo(), True)
            self.check(session, *versions[:many])
            self.assertEqual(list(session), steps[:many - 1])
        self.assertIs(session.redo(), False)
        self.check(session, *versions)
        # A refused replacement with 20 versions leaves what was undone as it is.
        session.undo()
        session.undo()
        session.redo()
        self.assertEqual(session.replace_text((0,), "b();")[2:], ("a()", "b()"))
        self.assertIs(session.redo(), True)
        self.check(session, *versions)

    def test_undo_and_redo_behind_replacements(self):
        session = Session((A, B))
        session.replace_text((0,), "{ a(); }")
        session.replace_text((1,), "{ b(); }")
        versions = session.versions
        self.assertIs(session.undo(), True)
        # Refused, or with an error: the undo can be taken back.
        self.assertIsNotNone(session.replace_at((0,), ()))
        self.assertIs(raised(session.replace_at, (9,), ()).__class__, NoStatement)
        self.assertIs(raised(session.replace_text, (0,), "a(").__class__, TextError)
        self.assertIs(session.redo(), True)
        self.check(session, *versions)
        # Accepted: it can't, also not a part of several undos.
        session.undo()
        session.undo()
        self.assertIs(session.redo(), True)
        self.assertIsNone(session.replace_text((1,), "if (b()) {}"))
        self.assertIs(session.redo(), False)
        self.check(session, *versions[:2], (("block", (A,)), ("if", B, (), ())))
        self.assertIs(session.undo(), True)
        self.assertIs(session.redo(), True)
        self.assertIs(session.redo(), False)

    def test_the_same_replacement_again_is_a_replacement(self):
        session = Session((A,))
        session.replace_at((0,), (A,))
        session.undo()
        self.assertIsNone(session.replace_at((0,), (A,)))
        self.assertIs(session.redo(), False)
        self.check(session, (A,), (A,))

    def test_rows_of_undos_and_redos(self):
        session = Session((A,))
        self.fill(session, 6)
        versions = session.versions
        at = 5
        for letter in "uuruurrruuuuuuurrurrrrrrruu":
            if letter == "u":
                self.assertIs(session.undo(), at > 0)
                at = max(0, at - 1)
            else:
                self.assertIs(session.redo(), at < 5)
                at = min(5, at + 1)
            self.check(session, *versions[:at + 1])

    def test_arguments_and_results_are_not_shared(self):
        session = Session(BEFORE)
        before = session.versions
        session.replace_at((0, 0, 0, 0, 1), ())
        self.assertEqual(before, (BEFORE,))
        self.assertEqual(list(session), list(session))
        self.assertEqual(len(session), 2)
        other = Session(BEFORE)
        self.check(other, BEFORE)

    def test_pieces(self):
        """Point [200]: block statements with equivalent bodies are exchanged."""
        for one, other in (("while (a()) b();", "for (;;) { if (!a()) break; b(); }"),
                           ("if (a()) continue x; b();", "if (!a()) b(); else continue x;"),
                           ("let f = false; if (a()) f = true; b(); if (f) break x;", "if (a()) { b(); break x; } b();")):
            program = read_program("x: while (c()) { let g = true; if (g) { {} { " + one + " } } d(); }")
            path = (0, 0, 1, 0, 1)
            self.assertEqual(statement_at(program, path), ("block", read_program(one)))
            session = Session(program)
            self.assertIsNone(session.replace_at(path, (("block", read_program(other)),)))
            self.assertIsNone(session.replace_at(path, (("block", read_program(one)),)))
            self.assertEqual(session.program, program)
            self.assertIsNotNone(session.replace_at(path, (("block", (A,)),)))


if __name__ == "__main__":
    unittest.main()

import unittest

from flowform.errors import FlagTwice, OutsideOfLoop, RunOver, TooManyFlags, TryInFinally, UnknownFlag
from flowform.programs import is_too_large
from flowform.reader import read_program
from flowform.running import Run, run
from tests.helpers import A, ResolvedMaker, answers, plain_events, raised, rows_of_answers, with_names

WRONG = (
    ("f = true; break; let f = true; let f = true;", UnknownFlag),
    ("let f = true; let f = true; break;", FlagTwice),
    ("if (a()) continue; f = true;", OutsideOfLoop),
    ("let a = true; let b = true; let c = true; let d = true; let e = true; try {} finally { try {} finally {} }",
     TooManyFlags),
    ("try {} finally { if (a()) { try {} finally {} } }", TryInFinally),
)


def told(text, letters):
    """Return the events of a run of a text, with spaces between them, for answers written as letters."""
    return " ".join(run(read_program(text), answers(letters)))


class Case(unittest.TestCase):
    def check(self, text, *cases):
        for letters, expected in cases:
            self.assertEqual(told(text, letters), expected, (text, letters))


class ConditionsTest(Case):
    """Point [80]: which calls a condition makes, in which order, and what its value is."""

    def test_call_and_not(self):
        self.check("if (a()) x(); else y();", ("T", "a() x()"), ("F", "a() y()"))
        self.check("if (!a()) x(); else y();", ("T", "a() y()"), ("F", "a() x()"))
        self.check("if (!!a()) x(); else y();", ("T", "a() x()"), ("F", "a() y()"))
        self.check("if (!!!a()) x(); else y();", ("T", "a() y()"), ("F", "a() x()"))

    def test_and(self):
        self.check("if (a() && b() && c()) x(); else y();", ("TTT", "a() b() c() x()"), ("TTF", "a() b() c() y()"),
                   ("TF", "a() b() y()"), ("F", "a() y()"))

    def test_or(self):
        self.check("if (a() || b() || c()) x(); else y();", ("FFF", "a() b() c() y()"), ("FFT", "a() b() c() x()"),
                   ("FT", "a() b() x()"), ("T", "a() x()"))

    def test_or_in_and(self):
        self.check("if ((a() || b()) && !(c() || d())) x(); else y();",
                   ("TFF", "a() c() d() x()"), ("TT", "a() c() y()"), ("TFT", "a() c() d() y()"),
                   ("FF", "a() b() y()"), ("FTT", "a() b() c() y()"), ("FTFF", "a() b() c() d() x()"))

    def test_and_in_or(self):
        self.check("if (a() && b() || !(c() && !d())) x(); else y();",
                   ("TT", "a() b() x()"), ("TFF", "a() b() c() x()"), ("FF", "a() c() x()"),
                   ("FTF", "a() c() d() y()"), ("FTT", "a() c() d() x()"), ("TFTF", "a() b() c() d() y()"))

    def test_all_values_of_nested_conditions(self):
        texts = ("!(a() && (b() || !c())) || d()", "!(!(a() || b()) && c())", "(a() || b() && c()) && (d() || !a())")
        for text in texts:
            for row in rows_of_answers(8)[-256:]:
                given = list(row)

                def call(name):
                    made.append(name + "()")
                    return given.pop(0)

                made = []
                calls = {name: (lambda name=name: call(name)) for name in "abcd"}
                value = eval(text.replace("!", " not ").replace("&&", " and ").replace("||", " or "), calls)
                program = read_program(f"if ({text}) x(); else y();")
                self.assertEqual(run(program, row[:len(made)]), tuple(made) + ("x()" if value else "y()",))

    def test_flags(self):
        for value in ("true", "false"):
            start = f"let f = {value}; "
            other = "false" if value == "true" else "true"
            yes, no = ("x()", "y()") if value == "true" else ("y()", "x()")
            self.check(start + "if (f) x(); else y();", ("", yes))
            self.check(start + "if (!f) x(); else y();", ("", no))
            self.check(start + f"f = {other}; if (f) x(); else y();", ("", no))
            self.check(start + f"f = {other}; f = {value}; if (f) x(); else y();", ("", yes))
        self.check("let f = true; if (f && a()) x(); else y();", ("T", "a() x()"), ("F", "a() y()"))
        self.check("let f = true; if (f || a()) x(); else y();", ("T", "x() end"))
        self.check("let f = false; if (f && a()) x(); else y();", ("T", "y() end"))
        self.check("let f = false; if (f || a()) x(); else y();", ("T", "a() x()"), ("F", "a() y()"))
        self.check("let f = false; if (a() && !f && b()) x(); else y();", ("TF", "a() b() y()"), ("F", "a() y()"))

    def test_the_flag_of_the_innermost_declaration(self):
        self.check("let f = true; { f = false; let f = true; if (f) a(); } if (f) b(); else c();", ("T", "a() c()"))
        self.check("let f = false; { let f = true; f = true; } if (f) b(); else c();", ("", "c()"))
        self.check("let f = true; let g = false; if (f) a(); if (g) b();", ("T", "a() end"))

    def test_a_declaration_in_a_loop_gives_its_value_in_every_round(self):
        text = "for (;;) { let f = false; if (a()) f = true; if (f) b(); else c(); }"
        self.check(text, ("TTF", "a() b() a() c()"), ("FTTT", "a() c() a() b() a()"))


class StatementsTest(Case):
    """Points [81] and [82]: how statements are completed, and how runs end."""

    def test_empty_programs(self):
        for text in ("", ";", "{}", "{{;}}", "let f = true;", "let f = false; f = true;", "try {} finally {}"):
            self.check(text, ("", "end"), ("TF", "end"))

    def test_calls(self):
        self.check("a();", ("", "a()"), ("T", "a() end"), ("F", "a() end"))
        self.check("a(); b(); a();", ("TF", "a() b() a()"), ("FTT", "a() b() a() end"))
        self.check("{ a(); { b(); } } c();", ("TTT", "a() b() c() end"))

    def test_names_of_calls_like_outcomes(self):
        self.check("end(); hang(); outcome(); call();", ("TFTF", "end() hang() outcome() call() end"))

    def test_returns(self):
        self.check("a(); return; b();", ("T", "a() return"))
        self.check("if (a()) return 0; return 99;", ("T", "a() return 0"), ("F", "a() return 99"))
        self.check("while (a()) { for (;;) { { return 10; } } }", ("T", "a() return 10"), ("F", "a() end"))

    def test_if(self):
        self.check("if (a()) b(); c();", ("TT", "a() b() c()"), ("F", "a() c()"))
        self.check("if (a()) {} else b(); c();", ("T", "a() c()"), ("FT", "a() b() c()"))
        self.check("if (a()) { b(); return 1; } else { c(); } d();",
                   ("TT", "a() b() return 1"), ("FTT", "a() c() d() end"))

    def test_while(self):
        self.check("while (a()) b(); c();", ("F", "a() c()"), ("TFTTF", "a() b() a() b() a() c()"))
        self.check("while (a()) {} c();", ("TTTF", "a() a() a() a() c()"))
        self.check("while (a()) { if (b()) break; if (c()) continue; d(); } e();",
                   ("TT", "a() b() e()"), ("TFTF", "a() b() c() a() e()"), ("TFFTF", "a() b() c() d() a() e()"))
        self.check("while (a()) { break; b(); } c();", ("T", "a() c()"))
        self.check("while (a()) { continue; b(); } c();", ("TF", "a() a() c()"))

    def test_for(self):
        self.check("for (;;) a(); b();", ("TFTF", "a() a() a() a() a()"))
        self.check("for (;;) { if (a()) break; b(); } c();", ("T", "a() c()"), ("FFT", "a() b() a() c()"))
        self.check("for (;;) { if (a()) continue; b(); return 3; }", ("TTFF", "a() a() a() b() return 3"))
        self.check("for (;;) break; a();", ("", "a()"))

    def test_jumps_over_several_loops(self):
        text = ("x: while (a()) { y: for (;;) { z: while (b()) { if (c()) JUMP; d(); } e(); } f(); } g();")
        for jump, after in (
            ("break", "e()"), ("break z", "e()"), ("break y", "f()"), ("break x", "g()"),
            ("continue", "b()"), ("continue z", "b()"), ("continue y", "b()"), ("continue x", "a()"),
            ("break w", "break w"), ("continue w", "continue w"), ("return", "return"), ("return 5", "return 5"),
        ):
            changed = text.replace("JUMP", jump)
            self.check(changed, ("TTT", "a() b() c() " + after), ("TTFF", "a() b() c() d() b()"), ("F", "a() g()"))
        self.check(text.replace("JUMP", "continue y"), ("TTTF", "a() b() c() b() e()"))
        self.check(text.replace("JUMP", "continue x"), ("TTTF", "a() b() c() a() g()"))
        self.check(text.replace("JUMP", "break y"), ("TTTFF", "a() b() c() f() a() g()"))

    def test_the_innermost_loop_with_the_label(self):
        self.check("x: while (a()) x: while (b()) break x;", ("TTF", "a() b() a() end"))
        self.check("x: while (a()) x: while (b()) continue x;", ("TTF", "a() b() b() a()"))
        self.check("x: while (a()) { b(); for (;;) { continue x; } }", ("TTT", "a() b() a() b()"))

    def test_labels_outside(self):
        self.check("x: while (a()) b(); break x;", ("F", "a() break x"))
        self.check("x: for (;;) { while (a()) continue y; break x; } b();", ("T", "a() continue y"), ("F", "a() b()"))
        self.check("break x; a();", ("T", "break x"))

    def test_flags_change_between_the_calls(self):
        text = "let f = true; let g = true; while (f || g) { if (f) f = false; else g = false; a(); } b();"
        self.check(text, ("TTT", "a() a() b() end"))

    def test_try_with_a_body_that_is_completed(self):
        self.check("try { a(); } finally { b(); } c();", ("TTT", "a() b() c() end"))
        self.check("try { return 4; } finally { b(); } c();", ("T", "b() return 4"))
        self.check("try { return; a(); } finally {} c();", ("T", "return"))
        self.check("try { break x; } finally { b(); } c();", ("T", "b() break x"))
        self.check("while (a()) { try { break; } finally { b(); } c(); } d();", ("TT", "a() b() d()"))
        self.check("while (a()) { try { continue; } finally { b(); } c(); } d();", ("TT", "a() b() a()"))
        self.check("x: while (a()) { for (;;) { try { continue x; } finally { b(); } } c(); }",
                   ("TTF", "a() b() a() end"))
        self.check("x: while (a()) { for (;;) { try { break x; } finally { b(); } } c(); }", ("TT", "a() b() end"))
        self.check("try { while (a()) { if (b()) break; c(); } d(); } finally { e(); }",
                   ("TTT", "a() b() d() e()"), ("TFTFT", "a() b() c() a() d() e()"))

    def test_try_with_a_body_that_is_never_completed(self):
        self.check("try { for (;;) {} } finally { a(); } b();", ("", "hang"))
        self.check("try { a(); let f = true; while (f) {} } finally { b(); }", ("T", "a() hang"))
        self.check("try { for (;;) a(); } finally { b(); }", ("TTTT", "a() a() a() a() a()"))

    def test_last_that_takes_the_place_of_the_first_completion(self):
        for first in ("a();", "if (a()) return 1;", "if (a()) break x;", "if (a()) break y;", "if (a()) continue y;"):
            body = f"try {{ {first} }} finally {{ b(); LAST }} c();"
            loop = f"y: for (;;) {{ {body} }} d();"
            self.check(body.replace("LAST", "return 2;"), ("TT", "a() b() return 2"), ("FF", "a() b() return 2"))
            self.check(body.replace("LAST", "break z;"), ("TT", "a() b() break z"))
            self.check(loop.replace("LAST", "break;"), ("TT", "a() b() d()"), ("FT", "a() b() d()"))
            self.check(loop.replace("LAST", "continue;"), ("TT", "a() b() a()"), ("FT", "a() b() a()"))
        self.check("try { a(); } finally { for (;;) {} } b();", ("T", "a() hang"))
        self.check("try { return 1; } finally { while (a()) { if (b()) break; } } c();",
                   ("F", "a() return 1"), ("TT", "a() b() return 1"))
        self.check("try { return 1; } finally { if (a()) return; }", ("T", "a() return"), ("F", "a() return 1"))

    def test_try_in_the_body_of_a_try(self):
        text = "try { try { if (a()) return 1; b(); } finally { if (c()) return 2; d(); } e(); } finally { f(); } g();"
        self.check(text, ("TFTT", "a() c() d() f() return 1"), ("TTT", "a() c() f() return 2"),
                   ("FTTT", "a() b() c() f() return 2"), ("FTFTTT", "a() b() c() d() e() f() g()"))
        text = "x: while (a()) { try { y: while (b()) { try { continue x; } finally { if (c()) break y; } } d(); } " \
               "finally { e(); } f(); }"
        self.check(text, ("TTFT", "a() b() c() e() a()"), ("TTTTT", "a() b() c() d() e() f()"))

    def test_the_same_last_behind_different_completions(self):
        text = "x: for (;;) { try { if (a()) return 1; if (b()) break; if (c()) continue; if (d()) break z; } " \
               "finally { e(); } f(); } g();"
        self.check(text, ("TT", "a() e() return 1"), ("FTT", "a() b() e() g()"), ("FFTT", "a() b() c() e() a()"),
                   ("FFFTT", "a() b() c() d() e() break z"), ("FFFFT", "a() b() c() d() e() f()"))

    def test_flags_in_last(self):
        self.check("let f = false; try { if (a()) { f = true; return 1; } } finally { if (f) b(); else c(); } d();",
                   ("TT", "a() b() return 1"), ("FT", "a() c() d()"))

    def test_examples(self):
        self.check("try { if (a()) return 1; b(); } finally { if (c()) return 2; } d();",
                   ("TT", "a() c() return 2"), ("TF", "a() c() return 1"), ("FTF", "a() b() c() d()"))
        self.check("for (;;) { try { return; } finally { if (a()) continue; } }", ("TTF", "a() a() a() return"))
        self.check("let on = true; while (on || a()) { on = false; b(); }", ("FT", "b() a() b()"))
        self.check("let f = true; for (;;) { if (f) f = false; else break; } a();", ("", "a()"))
        self.check("try { for (;;) { } } finally { a(); }", ("", "hang"))
        self.check("while (ready()) work();", ("", "ready()"), ("T", "ready() work()"), ("FT", "ready() end"),
                   ("TT", "ready() work() ready()"), ("TF", "ready() work() ready()"))

    def test_deep_programs(self):
        deep = (("call", "z"), ("break", "l39"))
        for level in range(40):
            deep = (("if", A, (), deep),) if level % 2 else (("for", f"l{level}", deep),)
        self.assertFalse(is_too_large(deep))
        self.assertEqual(run(deep, (False,) * 21), ("a()",) * 20 + ("z()", "break l39"))
        tries = (("return", 7),)
        for level in range(40):
            tries = (("try", tries, (("call", f"l{level}"),)),)
        self.assertFalse(is_too_large(tries))
        self.assertEqual(run(tries, (True,) * 40), tuple(f"l{level}()" for level in range(40)) + ("return 7",))

    def test_programs_of_a_maker(self):
        for seed in range(400):
            program = ResolvedMaker(seed, seed % 4).body(4)
            named = with_names(program)
            for row in rows_of_answers(3)[-8:]:
                self.assertEqual(run(named, row), plain_events(program, row), (program, row))


def counting(bits, behind):
    """Return a text that counts the rounds of a loop with flags; behind their last value it goes on as told."""
    names = "fghk"[:bits]
    step = behind
    for name in reversed(names):
        step = f"if (!{name}) {name} = true; else {{ {name} = false; {step} }}"
    return "".join(f"let {name} = false; " for name in names) + f"for (;;) {{ {step} }}"


class HangTest(Case):
    """Point [82]: runs that go on forever without another call, and runs that seem to."""

    def test_loops_without_calls(self):
        for text in ("for (;;) {}", "for (;;) for (;;) {}", "x: for (;;) { for (;;) { continue x; } }",
                     "let f = true; while (f) {}", "let f = false; while (!f) { f = true; f = false; }",
                     "for (;;) { for (;;) break; }", "let f = true; for (;;) { if (f) f = false; else f = true; }",
                     "x: for (;;) { try { for (;;) break x; } finally { continue; } }"):
            self.check(text, ("", "hang"), ("TFT", "hang"))
            self.check("a(); " + text, ("", "a()"), ("T", "a() hang"))
            self.check("try { " + text + " } finally { a(); } b();", ("T", "hang"))
            self.check(text + " a();", ("T", "hang"))
            self.check("while (a()) {" + text + "} b();", ("T", "a() hang"), ("F", "a() b()"))

    def test_loops_that_count_and_end(self):
        for bits in range(1, 5):
            text = counting(bits, "break;") + " a();"
            self.check(text, ("", "a()"), ("T", "a() end"))
            self.check("try {" + text + "} finally { b(); }", ("TT", "a() b() end"))
            self.check("try {" + counting(bits, "return 3;") + "} finally { b(); }", ("T", "b() return 3"))
            self.check("b(); " + text, ("TT", "b() a() end"))

    def test_loops_that_count_and_make_calls(self):
        text = counting(4, "a();")
        self.check(text, ("TTT", "a() a() a() a()"))
        rounds = "let e = false; " + counting(3, "if (e) break; else e = true;") + " a();"
        self.check(rounds, ("T", "a() end"))

    def test_loops_that_count_and_never_end(self):
        for bits in range(1, 5):
            self.check(counting(bits, "") + " a();", ("T", "hang"))
            self.check("try {" + counting(bits, "") + "} finally { a(); }", ("T", "hang"))
            self.check("a(); " + counting(bits, "continue;"), ("F", "a() hang"))

    def test_last_that_goes_on_forever(self):
        self.check("try { a(); } finally { let f = true; while (f) {} } b();", ("T", "a() hang"))
        self.check("for (;;) { try { break; } finally { continue; } }", ("", "hang"))
        self.check("for (;;) { try { if (a()) break; } finally { continue; } }", ("TF", "a() a() a()"))


class RunTest(unittest.TestCase):
    """Points [83] and [84]: the rows of answers, and the class Run."""

    def setUp(self):
        self.program = read_program("while (ready()) if (!work()) return 1;")

    def test_examples(self):
        self.assertEqual(run(self.program, answers("TTTFT")), ("ready()", "work()", "ready()", "work()", "return 1"))
        one = Run(self.program)
        self.assertEqual((one.answer(True), one.answer(False), one.is_over, one.answers, len(one)),
                         ("work()", "return 1", True, (True, False), 3))

    def test_rows_of_answers(self):
        self.assertEqual(run(self.program, ()), ("ready()",))
        self.assertEqual(run(self.program, (False,)), ("ready()", "end"))
        self.assertEqual(run(self.program, (False,) + (True,) * 399), ("ready()", "end"))
        self.assertEqual(run((), ()), ("end",))
        self.assertEqual(run((), (True,) * 400), ("end",))
        events = run(self.program, (True,) * 400)
        self.assertEqual(events, ("ready()", "work()") * 200 + ("ready()",))
        self.assertEqual(run(self.program, (True,) * 399 + (False,)), events[:-1] + ("return 1",))
        self.assertIsInstance(events, tuple)

    def test_what_resolve_raises(self):
        for text, error in WRONG:
            program = read_program(text)
            for function in (lambda: run(program, ()), lambda: run(program, (True, False)), lambda: Run(program)):
                self.assertIs(raised(function).__class__, error, text)

    def test_many_configurations_are_no_error(self):
        program = read_program("let f = true; let g = true; let h = true; let k = true;" + "a();" * 100)
        self.assertEqual(run(program, (True,) * 100), ("a()",) * 100 + ("end",))
        self.assertEqual(Run(program).answer(True), "a()")

    def test_before_answers(self):
        one = Run(self.program)
        self.assertEqual((one.event, one.is_over, one.answers, len(one), list(one)),
                         ("ready()", False, (), 1, ["ready()"]))
        self.assertIs(one.is_over, False)

    def test_between_and_behind_answers(self):
        one = Run(self.program)
        given = answers("TTTTF")
        self.assertEqual(len(run(self.program, given)), 6)
        events = run(self.program, given)
        for number, value in enumerate(given):
            self.assertIs(one.is_over, False)
            self.assertEqual(one.answer(value), events[number + 1])
            self.assertEqual(one.event, events[number + 1])
            self.assertEqual(one.answers, given[:number + 1])
            self.assertEqual(len(one), number + 2)
            self.assertEqual(tuple(one), events[:number + 2])
        self.assertEqual((one.event, one.is_over), ("end", True))

    def test_every_kind_of_end(self):
        for text, outcome in (("a();", "end"), ("a(); return;", "return"), ("a(); return 9;", "return 9"),
                              ("a(); break x;", "break x"), ("a(); continue x;", "continue x"),
                              ("a(); for (;;) {}", "hang")):
            one = Run(read_program(text))
            self.assertEqual((one.event, one.is_over), ("a()", False))
            self.assertEqual((one.answer(False), one.event, one.is_over), (outcome, outcome, True))

    def test_calls_named_like_outcomes_are_no_end(self):
        one = Run((("call", "end"), ("call", "hang")))
        self.assertEqual([one.is_over, one.answer(True), one.is_over, one.answer(True), one.is_over],
                         [False, "hang()", False, "end", True])

    def test_run_over(self):
        for text, given in (("", ""), ("return 5;", ""), ("for (;;) {}", ""), ("a(); b();", "TF")):
            one = Run(read_program(text))
            for value in answers(given):
                one.answer(value)
            before = (one.event, one.is_over, one.answers, len(one), list(one))
            self.assertIs(one.is_over, True)
            for value in (True, False, True):
                self.assertIsInstance(raised(one.answer, value), RunOver)
                self.assertEqual((one.event, one.is_over, one.answers, len(one), list(one)), before)

    def test_two_runs_by_turns(self):
        program = read_program("let f = false; while (a()) { if (f) b(); else c(); f = true; }")
        first, second = Run(program), Run(program)
        for number in range(6):
            first.answer(True)
            if number % 2:
                second.answer(number != 5)
        self.assertEqual(tuple(first), run(program, first.answers))
        self.assertEqual(tuple(second), run(program, second.answers))
        self.assertEqual((len(first), len(second), second.answers), (7, 4, (True, True, False)))
        self.assertEqual((first.event, second.event, second.is_over), ("a()", "end", True))

    def test_many_answers(self):
        program = read_program("let f = false; while (a() || b()) { if (f) { f = false; c(); } else f = true; }")
        one = Run(program)
        given = tuple(number % 3 != 0 for number in range(400))
        told_events = [one.answer(value) for value in given]
        self.assertEqual(len(one), 401)
        self.assertEqual(tuple(told_events), run(program, given)[1:])
        self.assertEqual(one.answers, given)
        self.assertIs(one.is_over, False)

    def test_runs_of_a_maker(self):
        for seed in range(100):
            program = with_names(ResolvedMaker(seed, seed % 4).body(4))
            one = Run(program)
            while not one.is_over and len(one) < 20:
                one.answer(len(one) % 3 == 0)
            self.assertEqual(tuple(one), run(program, one.answers))
            self.assertEqual(tuple(one), run(program, one.answers + ((True,) if one.is_over else ())))


if __name__ == "__main__":
    unittest.main()

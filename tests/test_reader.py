import unittest

from flowform.errors import TextError, TooLarge
from flowform.programs import depths, places
from flowform.reader import read_condition, read_program
from tests.helpers import A, B, C, raised

F = ("flag", "f")


def marked_place(marked):
    """Return the place of the token behind the mark ^, which is left out in the text."""
    before, behind = marked.split("^")
    blanks = len(behind) - len(behind.lstrip())
    return len(before) + blanks


class ProgramsTest(unittest.TestCase):
    """Points [61], [62] and [65]."""

    def check(self, *pairs):
        for text, program in pairs:
            self.assertEqual(read_program(text), program, text)

    def test_statements(self):
        self.check(
            ("", ()), (" \n\t ", ()), (";", ()), (";;;", ()), ("a();", (A,)), ("a ( ) ;", (A,)), ("a();b();", (A, B)),
            ("let f = true;", (("let", "f", True),)), ("let f=false;", (("let", "f", False),)),
            ("f = true;", (("set", "f", True),)), ("f=false;", (("set", "f", False),)),
            ("break;", (("break", None),)), ("break x;", (("break", "x"),)),
            ("continue;", (("continue", None),)), ("continue x;", (("continue", "x"),)),
            ("return;", (("return", None),)), ("return 0;", (("return", 0),)), ("return 99;", (("return", 99),)),
            ("{}", (("block", ()),)), ("{;}", (("block", ()),)), ("{a();{}}", (("block", (A, ("block", ()))),)),
            ("{let f=true;f=false;}", (("block", (("let", "f", True), ("set", "f", False))),)),
            ("try {} finally {}", (("try", (), ()),)),
            ("try {a();;} finally {b();{c();}}", (("try", (A,), (B, ("block", (C,)))),)),
        )

    def test_loops(self):
        self.check(
            ("for (;;) ;", (("for", None, ()),)), ("for(;;){}", (("for", None, ()),)),
            ("for (;;) a(); b();", (("for", None, (A,)), B)), ("x: for (;;) {a();b();}", (("for", "x", (A, B)),)),
            ("while (a()) b();", (("while", None, A, (B,)),)), ("x:while(f);", (("while", "x", F, ()),)),
            ("x: while (f) y: for (;;) break x;", (("while", "x", F, (("for", "y", (("break", "x"),)),)),)),
        )

    def test_bodies(self):
        self.check(
            ("if (f) a();", (("if", F, (A,), ()),)), ("if (f) { a(); }", (("if", F, (A,), ()),)),
            ("if (f) ;", (("if", F, (), ()),)), ("if (f) {}", (("if", F, (), ()),)),
            ("if (f) {{}}", (("if", F, (("block", ()),), ()),)), ("if (f) {;}", (("if", F, (), ()),)),
            ("if (f) a(); else b();", (("if", F, (A,), (B,)),)),
            ("if (f) {a();} else {b();}", (("if", F, (A,), (B,)),)),
            ("if (f) ; else ;", (("if", F, (), ()),)), ("if (f) {} else {{}}", (("if", F, (), (("block", ()),)),)),
            ("if (a()) { { b(); } ; } else ;", (("if", A, (("block", (B,)),), ()),)),
            ("for (;;) { let f = true; { } }", (("for", None, (("let", "f", True), ("block", ()))),)),
            ("while (f) try {} finally {}", (("while", None, F, (("try", (), ()),)),)),
        )

    def test_else_belongs_to_the_nearest_if(self):
        inner = ("if", B, (A,), (C,))
        self.check(
            ("if (f) if (b()) a(); else c();", (("if", F, (inner,), ()),)),
            ("if (f) { if (b()) a(); } else c();", (("if", F, (("if", B, (A,), ()),), (C,)),)),
            ("if (f) if (b()) a(); else c(); else b();", (("if", F, (inner,), (B,)),)),
            ("if (f) for (;;) if (b()) a(); else c();", (("if", F, (("for", None, (inner,)),), ()),)),
            ("if (f) a(); else if (b()) a(); else c();", (("if", F, (A,), (inner,)),)),
            ("if (f) a(); else { if (b()) a(); else c(); }", (("if", F, (A,), (inner,)),)),
        )

    def test_names_may_begin_with_reserved_words(self):
        self.check(("iff();lets=true;", (("call", "iff"), ("set", "lets", True))),
                   ("True: for(;;) break True;", (("for", "True", (("break", "True"),)),)))

    def test_example(self):
        self.check(("x: for (;;) if (!(a() && (b()))) break x; else if (c()) ; else { d(); }", (
            ("for", "x", (("if", ("not", ("and", (A, B))), (("break", "x"),), (
                ("if", C, (), (("call", "d"),)),)),)),)))


class ConditionsTest(unittest.TestCase):
    """The conditions of points [61], [62] and [65]."""

    def test_forms(self):
        for text, condition in (
            ("a()", A), ("f", F), (" a ( ) ", A), ("!a()", ("not", A)), ("!!f", ("not", ("not", F))),
            ("(a())", A), ("((f))", F), ("!(a())", ("not", A)), ("!(!(f))", ("not", ("not", F))),
            ("a() && b()", ("and", (A, B))), ("a()||b()||f", ("or", (A, B, F))),
            ("a() || b() && c()", ("or", (A, ("and", (B, C))))), ("a() && b() || c()", ("or", (("and", (A, B)), C))),
            ("(a() || b()) && c()", ("and", (("or", (A, B)), C))), ("!a() && b()", ("and", (("not", A), B))),
            ("!(a() && b())", ("not", ("and", (A, B)))), ("!a() || !b()", ("or", (("not", A), ("not", B)))),
        ):
            self.assertEqual(read_condition(text), condition, text)
            self.assertEqual(read_program("if (" + text + ") ;"), (("if", condition, (), ()),))
            self.assertEqual(read_program("while (" + text + ") ;"), (("while", None, condition, ()),))

    def test_chains_are_joined(self):
        for sign, kind in (("&&", "and"), ("||", "or")):
            for text in ("a() S b() S c()", "a() S (b() S c())", "(a() S b()) S c()", "((a() S (b() S c())))",
                         "(a()) S ((b()) S c())"):
                self.assertEqual(read_condition(text.replace("S", sign)), (kind, (A, B, C)), text)
            for text in ("(a() S b()) S (c() S f)", "a() S (b() S (c() S f))", "((a() S b()) S c()) S f"):
                self.assertEqual(read_condition(text.replace("S", sign)), (kind, (A, B, C, F)), text)
        self.assertEqual(read_condition("a() || (b() && (c() || f))"), ("or", (A, ("and", (B, ("or", (C, F)))))))
        self.assertEqual(read_condition("a() && !(b() && c())"), ("and", (A, ("not", ("and", (B, C))))))


class ErrorsTest(unittest.TestCase):
    """Point [64]: each reason with its place."""

    def check(self, reason, *texts):
        for marked in texts:
            text = marked.replace("^", "")
            error = raised(read_program, text)
            self.assertIsInstance(error, TextError, text)
            self.assertEqual((error.place, error.reason), (marked_place(marked), reason), text)

    def check_condition(self, reason, *texts):
        for marked in texts:
            text = marked.replace("^", "")
            error = raised(read_condition, text)
            self.assertIsInstance(error, TextError, text)
            self.assertEqual((error.place, error.reason), (marked_place(marked), reason), text)
            if reason != "expected the end":
                self.check(reason, "if (" + marked, "x: while (" + marked)

    def test_expected_symbols(self):
        self.check("expected ;", "a()^", "a()^}", "a() ^ ", "a()^ b();", "f = true^", "f = true^ f;", "let f = false^",
                   "break x^", "break x^ y;", "continue x ^:", "return 7^", "return 7^ 7;", "for (^", "for (^a();;)",
                   "for (;^", "for (;^a();)", "while (a()) b()^")
        self.check("expected (", "if^", "if^ a()", "while^", "while ^;", "for^", "for ^;", "x: for^", "if^ {}")
        self.check("expected )", "a(^", "a(^b", "a(^;", "for (;;^", "for (;;^;)", "if (a(^", "if (a(^f")
        self.check("expected =", "let f^", "let f^;", "let f ^(", "let f^ true;")
        self.check("expected {", "try^", "try ^;", "try ^a();", "try {} finally^", "try {} finally ^;", "try ^let")
        self.check("expected finally", "try {}^", "try {} ^;", "try {a();} ^else", "try {} ^{}", "try {}^}")
        self.check("expected }", "{^", "{a();^", "{{}^", "for (;;) {^", "if (f) {} else {^", "try {^", "{ if (f) ; ^",
                   "try {} finally {^ ", "{;^", "{let f = true;^")

    def test_end_of_a_condition(self):
        self.check("expected )", "if (a()^", "if (a() ^b()) ;", "if (f^", "if (f ^f", "if (f^;", "if (f ^= true",
                   "if (!f^{", "if (f || a() ^!", "while (a()^:", "if (f ^7", "if (a()^}", "if (a() ^(", "if (f ^else")
        self.check_condition("expected )", "(a()^", "(f^;", "((f)^", "(a() && f ^f)", "!(f ^!f)", "a(^", "f && a(^f)")
        self.check_condition("expected the end", "a()^)", "a() ^b()", "f^;", "f ^f", "a()^()", "(f)^)", "f ^!f", "f ^7",
                             "f || f ^if", "f^{", "(f) ^(f)")

    def test_let_as_a_body(self):
        self.check("let is not allowed here", "if (f) ^let", "if (f) ^let f = true;", "if (f) ; else ^let",
                   "while (f) ^let f;", "for (;;) ^let", "x: for (;;) ^let x", "{ if (f) if (f) ^let")

    def test_expected_a_statement(self):
        for head in ("if (f) ", "if (f) ; else ", "while (f) ", "for (;;) ", "x: while (f) if (f) "):
            self.check("expected a statement", *[head + "^" + rest for rest in (
                "", ")", "}", "7", "else", "finally {}", "true", "false;", "=", "&& f", "!f", ":", "(f)")])
        for rest in (")", "7;", "else ;", "finally", "true;", "false", "= true;", "|| f", "!f", ": for (;;) ;", "(f);"):
            self.check("expected a statement", "^" + rest, "a(); ^" + rest, "{ ^" + rest, "{a(); ^" + rest,
                       "for (;;) { ^" + rest, "try {} finally { ^" + rest, "for (;;) ;^" + rest, "{}^" + rest)
        self.check("expected a statement", "^}", "a();^}", "{}^}", "if (f) ; else ; ^else", "for (;;) ; ^else ;",
                   "if (f) {} else {} ^else {}", "if (f) for (;;) {} else ; ^else", "if (f) ;^}")

    def test_expected_a_name(self):
        self.check("expected a name", "let^", "let ^;", "let ^7", "let ^let", "let ^true = true;", "let ^= true;",
                   "{let^", "let ^if", "let^}")

    def test_expected_true_or_false(self):
        self.check("expected true or false", "f = ^", "f = ^;", "f = ^f;", "f = ^7;", "f =^= true;", "f = ^if",
                   "let f = ^", "let f = ^;", "let f = ^g;", "let f = ^0;", "let f = ^!true;", "f = ^True;")

    def test_expected_a_condition(self):
        rests = ("", ")", ";", "7", "true", "false", "if", "let", "&& f", "|| f", "= f", "{", "}", ":")
        for head in ("", "!", "(", "!!", "f && ", "f || ", "(f && ", "a() || b() && ", "!(", "((", "f || !"):
            self.check_condition("expected a condition", *[head + "^" + rest for rest in rests])

    def test_after_a_name(self):
        self.check("expected (, = or :", "a^", "a^;", "a^ b();", "a^)", "a^ 7", "a ^if", "a^ && b", "a^!", "a ^{",
                   "a^}", "{a^", "if (f) a^;", "a(); b^")

    def test_after_a_label(self):
        self.check("expected while or for", "x:^", "x: ^;", "x: ^a();", "x: ^y: for (;;) ;", "x: ^if (f) ;", "x: ^{",
                   "x: ^try", "x: ^7", "x: ^:", "{ x: ^}")

    def test_after_a_jump(self):
        for word in ("break", "continue"):
            self.check("expected a label or ;", *[word + rest for rest in (
                "^", "^ 7;", "^ if;", "^ let;", "^()", "^ break", "^ true;", "^}", "^ :", "^ =")])

    def test_after_a_return(self):
        self.check("expected a number or ;", "return^", "return^ x;", "return ^ true;", "return^ ()", "return ^ ",
                   "return^}", "return ^return", "return^ !", "{return^")

    def test_errors_of_the_tokens_come_first(self):
        self.check("unexpected character", "} } a( ^?", "let let let ^-", "if (^&", "f = ^| true;")
        self.check("word too long", ") ^" + "a" * 31, "if if ^" + "a" * 31 + " ?")
        self.check("invalid number", "return x; ^00", "for for for ^100", "return ^07;")
        error = raised(read_condition, "&& && 00")
        self.assertEqual((error.place, error.reason), (6, "invalid number"))
        deep = "{" * 60
        self.check("unexpected character", deep + "^.")


class DepthTest(unittest.TestCase):
    """Points [63] and [64]: "nested too deeply"."""

    def check(self, marked, reason="nested too deeply", read=read_program):
        text = marked.replace("^", "")
        error = raised(read, text)
        self.assertIsInstance(error, TextError, text)
        self.assertEqual((error.place, error.reason), (marked_place(marked), reason), text)

    def test_depth_40_is_allowed(self):
        for head, tail in (("{", "}"), ("for(;;)", ""), ("for(;;){", "}"), ("if(f)", ""), ("if(f){}else ", ""),
                           ("while(f){", "}"), ("try{", "}finally{}"), ("try{}finally{", "}"), ("x:while(f)", "")):
            self.assertEqual(depths(read_program(head * 40 + "a();" + tail * 40))[0], 40)
            if tail:
                for rest in ("a();" + tail, ";", "7", "let", "else", ")"):
                    self.check(head * 41 + "^" + rest)
                self.check(head * 41 + "^", "expected }")
            else:
                for rest in ("", "a();", ";", "7", "let", "else", ")", "}", "let f = true;"):
                    self.check(head * 41 + "^" + rest)

    def test_statements_at_the_depths_40_and_41(self):
        for rest in ("let f = true;", ";", "{}", "a();", "f = true;", "if (f) {}", "if (f) {} else {}", "for (;;) {}",
                     "x: while (f) {}", "break;", "return 7;", "try {} finally {}"):
            read_program("{" * 40 + rest + rest + "}" * 40)
            self.check("{" * 41 + "^" + rest + "}" * 41)
            if not rest.startswith("let"):
                read_program("for(;;)" * 40 + rest)
            if rest != "{}":
                self.check("for(;;)" * 41 + "^" + rest)
            self.check("for(;;)" * 41 + "{^" + rest + "}")

    def test_bodies_of_statements_at_depth_40(self):
        for base in ("{" * 40, "for(;;)" * 40):
            for head in ("for(;;)", "while(f)", "if(f)", "if(f){}else ", "x:for(;;)"):
                for rest in ("", ";", "a();", "let", "}", ")", "7", "else", "if(f){}"):
                    self.check(base + head + "^" + rest)
                for rest in (";", "a();", "let", ")", "7", "else", "{}", "{", "finally"):
                    self.check(base + head + "{^" + rest)
                self.check(base + head + "{^", "expected }")
            self.check(base + ";{^", "expected }")
            self.check("{" + base + "^;")
            self.check(base + "try^", "expected {")
            self.check(base + "try^;", "expected {")
            self.check(base + "try{^;")
            self.check(base + "try{^", "expected }")
            self.check(base + "try{}^", "expected finally")
            self.check(base + "try{}finally^", "expected {")
            self.check(base + "try{}finally{^a();")

    def test_end_of_the_text_at_depth_40_and_41(self):
        self.check("for(;;)" * 40 + "^", "expected a statement")
        self.check("for(;;)" * 41 + "^")
        self.check("for(;;)" * 40 + "if(f){}else ^")
        self.check("{" * 40 + "^", "expected }")
        self.check("{" * 41 + "^", "expected }")
        self.check("{" * 41 + "}^", "expected }")
        self.check("{" * 41 + "}" * 41 + "^}", "expected a statement")

    def test_else_if_is_one_deeper(self):
        self.assertEqual(depths(read_program("if(f);else " * 40 + "a();"))[0], 40)
        self.check("if(f){}else " * 41 + "^a();")
        self.check("if(f);else " * 40 + "if(f)^;")

    def test_errors_before_are_still_found(self):
        self.check("{" * 40 + "a(^;" + "{;", "expected )")
        self.check("^}" + "{" * 60, "expected a statement")

    def test_conditions(self):
        places_of_conditions = (
            (read_condition, "", ""), (read_program, "if (", ") ;"), (read_program, "while (", ") ;"))
        for read, head, tail in places_of_conditions:
            for inner in ("!" * 20 + "f", "(" * 20 + "f" + ")" * 20, "!(" * 10 + "a()" + ")" * 10):
                read(head + inner + tail)
                # A chain is no deeper in the text, but its parts are in the condition.
                chained = raised(read, head + "f && " + inner + tail)
                self.assertIsInstance(chained, TooLarge if "!" * 20 in inner else type(None))
            for inner in ("!" * 20 + "^!f", "!" * 20 + "^(f)", "(" * 20 + "^(f)", "(" * 20 + "^!f", "!(" * 10 + "^!",
                          "!(" * 10 + "^(", "!" * 20 + "^!7", "(" * 20 + "f && ^!f", "(" * 20 + "a() || f && ^(f)"):
                self.check(head + inner + tail, "nested too deeply", read)
            self.check(head + "!" * 20 + "^", "expected a condition", read)
            self.check(head + "!" * 20 + "^7", "expected a condition", read)
            self.check(head + "(" * 20 + "^)", "expected a condition", read)
            self.check(head + "(" * 20 + "f^", "expected )", read)

    def test_conditions_are_at_depth_0_everywhere(self):
        inner = "!" * 20 + "f"
        self.assertEqual(depths(read_program("for(;;)" * 39 + f"while ({inner}) if ({inner}) {{}}"))[1], 20)


class TooLargeTest(unittest.TestCase):
    """Points [42] and [65]."""

    def test_places(self):
        self.assertEqual(places(read_program("a();" * 200)), 200)
        self.assertEqual(read_program("a();" * 200 + ";" * 300), (A,) * 200)
        self.assertIsInstance(raised(read_program, "a();" * 201), TooLarge)
        self.assertEqual(places(read_program("if (a() && b()) ;" * 50)), 200)
        self.assertIsInstance(raised(read_program, "if (a() && b()) ;" * 50 + "{}"), TooLarge)
        self.assertEqual(places(read_program("if (" + "(" * 9 + "f" + " && f" * 197 + ")" * 9 + ") ;")), 200)
        self.assertIsInstance(raised(read_program, "if (f" + " && f" * 198 + ") ;"), TooLarge)
        self.assertIsInstance(raised(read_program, "a();" * 12000), TooLarge)

    def test_only_if_there_is_no_other_error(self):
        error = raised(read_program, "a();" * 201 + "a()")
        self.assertIsInstance(error, TextError)
        self.assertEqual((error.place, error.reason), (807, "expected ;"))
        self.assertEqual(raised(read_program, "a();" * 300 + "07").reason, "invalid number")
        self.assertEqual(raised(read_program, "a();" * 300 + "}").reason, "expected a statement")
        self.assertEqual(raised(read_condition, "f" + " && f" * 60 + ")").reason, "expected the end")

    def test_parts_of_a_condition(self):
        self.assertEqual(len(read_condition("f" + " && f" * 58)[1]), 59)
        self.assertIsInstance(raised(read_condition, "f" + " && f" * 59), TooLarge)
        read_program("if (f" + " && f" * 59 + ") ;")
        self.assertEqual(len(read_condition("f && (f && f)" + " && f" * 56)[1]), 59)
        self.assertIsInstance(raised(read_condition, "!f" + " || f" * 58), TooLarge)

    def test_parts_that_are_deeper_than_the_text(self):
        for head, tail in (("!" * 19 + "(", ")"), ("!(f && " * 9 + "!(", ")" * 10)):
            text = head + "a() || b()" + tail
            self.assertEqual(depths(((("if", read_condition(text), (), ())),))[1], 20)
            read_program("if (" + text + ") ;")
            text = head + "a() || b() && c()" + tail
            self.assertIsInstance(raised(read_condition, text), TooLarge)
            self.assertIsInstance(raised(read_program, "if (" + text + ") ;"), TooLarge)
            self.assertIsInstance(raised(read_program, "while (" + text + ")"), TextError)


if __name__ == "__main__":
    unittest.main()

import unittest

from flowform.errors import TextError, TooLarge
from flowform.printer import show_program
from flowform.reader import read_program
from flowform.templates import fill
from tests.helpers import A, B, C, Maker, nested, raised


class FillTest(unittest.TestCase):
    """Points [70] and [71]."""

    def test_example(self):
        self.assertEqual(fill(("rows: while (row()) ", ""), ((("call", "good"),),)),
                         (("while", "rows", ("call", "row"), (("call", "good"),)),))

    def test_no_part(self):
        self.assertEqual(fill(("",), ()), ())
        self.assertEqual(fill(("a(); b();",), ()), (A, B))

    def test_one_part(self):
        self.assertEqual(fill(("", ""), ((A, B),)), (("block", (A, B)),))
        self.assertEqual(fill(("a();", "b();"), ((C,),)), (A, ("block", (C,)), B))
        self.assertEqual(fill(("{", "}"), ((C,),)), (("block", (("block", (C,)),)),))

    def test_several_parts(self):
        self.assertEqual(fill(("if (a()) ", " else ", ""), ((B,), (C, A))), (("if", A, (B,), (C, A)),))
        self.assertEqual(fill(("try", "finally", ""), ((B,), (C,))), (("try", (B,), (C,)),))
        self.assertEqual(fill(("", "", "", ""), ((A,), (), (B,))), (("block", (A,)), ("block", ()), ("block", (B,))))

    def test_empty_program(self):
        self.assertEqual(fill(("for (;;) ", ""), ((),)), (("for", None, ()),))
        self.assertEqual(fill(("", ""), ((),)), (("block", ()),))

    def test_parts_are_read_with_their_printed_form(self):
        maker = Maker(7)
        for _ in range(100):
            first, second = maker.body(3), maker.body(3)
            self.assertEqual(fill(("x: for (;;) ", " ", "a();"), (first, second)),
                             (("for", "x", first), ("block", second), A))

    def test_names_are_not_resolved(self):
        part = (("set", "f", True), ("break", None), ("continue", "x"))
        self.assertEqual(fill(("let f = true; x: while (f)", ""), (part,))[1], ("while", "x", ("flag", "f"), part))

    def test_errors(self):
        for strings, parts in (
            (("a()", ""), ((B,),)), (("try ", ""), ((B,),)), (("if (a()) ", ") else ;"), ((B,),)),
            (("x:", ""), ((),)), (("", "}"), ((A, B),)), (("", "", "?"), ((A,), (nested(3)))),
            (("for ", ""), ((A,),)), (("{", ""), ((A,),)), (("a", ""), ((),)), (("let", "00"), ((),)),
        ):
            text = strings[0]
            for part, string in zip(parts, strings[1:]):
                text += "{\n" + show_program(part) + "}" + string
            error, expected = raised(fill, strings, parts), raised(read_program, text)
            self.assertIsInstance(error, TextError)
            self.assertEqual((error.place, error.reason), (expected.place, expected.reason))

    def test_places_in_the_text_that_was_put_together(self):
        error = raised(fill, ("", "}"), ((A, B),))
        self.assertEqual((error.place, error.reason), (13, "expected a statement"))
        error = raised(fill, ("if (a()) ", " else ", " x"), ((), (B,)))
        self.assertEqual((error.place, error.reason), (28, "expected (, = or :"))
        error = raised(fill, ("try ", ""), ((),))
        self.assertEqual((error.place, error.reason), (7, "expected finally"))
        error = raised(fill, ("a()", ""), ((),))
        self.assertEqual((error.place, error.reason), (3, "expected ;"))

    def test_nested_too_deeply(self):
        self.assertEqual(fill(("for (;;)", ""), (nested(39),)), (("for", None, nested(39)),))
        self.assertEqual(raised(fill, ("for (;;)", ""), (nested(40),)).reason, "nested too deeply")
        self.assertEqual(fill(("for (;;)" * 41, ""), ((),))[0][0], "for")

    def test_too_large(self):
        self.assertEqual(len(fill(("a();", ""), ((B,) * 198,))), 2)
        self.assertIsInstance(raised(fill, ("a();", ""), ((B,) * 199,)), TooLarge)
        self.assertIsInstance(raised(fill, ("for(;;)", "", ""), ((B,) * 100, (C,) * 100)), TooLarge)
        self.assertIsInstance(raised(fill, ("a()", ""), ((B,) * 200,)), TextError)


if __name__ == "__main__":
    unittest.main()

"""Tests of livenames.console."""

import unittest

from livenames.console import Console
from livenames.errors import NoNote
from livenames.fewest import width
from livenames.notes import read_term, write_term
from livenames.terms import Term
from tests.checks import NO_TERMS, Checks
from tests.test_notes import PLACES
from tests.trees import X, bound, deep, drawn_terms, greatest_terms, joined
from tests.values import NO_NAMES

TEXT = "{x|y|f(x,{y||g(x,y)},{z||w})}"

# Lines of a form, each answered `error` without a live term.
LINES = [
    "term", "names", "width", "live 0", "live 10", "rename 0 q", "rename 7 abcdefgh", "tune", "inline 0", "wrap 0 q", "unwrap 2",
    "undo", "many a", "many a b c", "many a a", "live 123456789012345678901234567890", "wrap 400 x", "many live names",
]

UNKNOWN = [
    "", " ", "  ", "\n", "begin", "Begin x", " begin x", "BEGIN x", "beginx", "begin\n", "begin x\n", "begin\nx", "begin x\ny", "begin \n",
    "term ", " term", "term  ", "Term", "TERM", "terms", "ter", "term x", "term 0", "term\n", "\nterm", "te rm",
    "names ", "names x", " names", "names\n", "name", "width 0", "width ", "widths", "live", "live ", "live  0", " live 0", "live 0 ", "live 0 0",
    "live x", "live -1", "live +1", "live 00", "live 01", "live 0x0", "live 1.0", "live 1e0", "live 0\n", "live 0\n0", "live True", "live None",
    "live 1_0", "live -0", "live \t0", "live 0,", "live '0'", "lives 0", "live0",
    "rename", "rename ", "rename 0", "rename 0 ", "rename q", "rename q 0", "rename 0 Q", "rename 0 qQ", "rename 0 abcdefghi", "rename 0  q", "rename  0 q",
    "rename 0 q ", "rename 0 q q", "rename 00 q", "rename -1 q", "rename +0 q", "rename 0 1", "rename 0 q1", "rename 0 q\n", " rename 0 q", "rename 0\nq",
    "tune 0", "tune ", " tune", "tuned", "tune\n", "inline", "inline ", "inline x", "inline 0 0", "inline 00", "inline 0 ", "inline  0", "inline -1", "inline 0\n",
    "wrap", "wrap 0", "wrap 0 ", "wrap q 0", "wrap 0 Q", "wrap 00 q", "wrap 0 q q", "wrap 0  q", "wrap 0 q ", "wrap 0 abcdefghi", "wrap 0 q\n", "wrap -1 q",
    "unwrap", "unwrap ", "unwrap x", "unwrap 01", "unwrap 0 0", "unwrap 0 ", "unwrap -0", "unwrap 0\n", "undo 0", "undo ", " undo", "undo\n", "undone",
    "many", "many ", "many  a", "many a ", "many a  b", "many A", "many a B", "many 0", "many a 1", "many abcdefghi", "many a\n", "many a\nb", " many a",
    "put 0 x", "put", "help", "trial", "twin", "kept", "exit", "live 0;tune", "term\ttune", "N", "live N", "rename N NAME", "many NAME", "begin\tx",
] + ["many " + name for name in NO_NAMES if name not in ["a b"]] + ["many a " + name for name in NO_NAMES if name not in ["a b"]]


def console_of(text):
    console = Console()
    assert console.run("begin " + text) == "ok"
    return console


class Runs(Checks):

    def assert_runs(self, console, *pairs):
        for line, answer in pairs:
            self.assert_same(console.run(line), answer, line)

    def all_told(self, console):
        """All that a console tells of its term."""
        return [console.run(line) for line in ["term", "names", "width", "live 0", "live 1", "many a b c x y z"]]


class TestBegin(Runs):

    def test_begin(self):
        console = Console()
        self.assert_runs(console, ("begin x", "ok"), ("term", "x"), ("begin " + TEXT, "ok"), ("term", TEXT))

    def test_texts_that_are_none(self):
        for text in PLACES:
            answer = "unknown" if "\n" in text else "error"
            self.assert_runs(Console(), ("begin " + text, answer), ("term", "error"), ("undo", "error"))

    def test_the_live_term_goes_on_after_a_text_that_is_none(self):
        for text in ["", "f(", "X", " x", "x ", "x\n", "f(x) f(x)", "{x|x}"]:
            console = console_of(TEXT)
            console.run("rename 0 q")
            self.assertIn(console.run("begin " + text), ["error", "unknown"])
            self.assert_runs(console, ("names", "q y z"), ("undo", "ok"), ("term", TEXT), ("undo", "error"))

    def test_limits(self):
        for tree in [joined(400), bound(60), deep(100)]:
            text = write_term(Term(tree))
            self.assert_runs(Console(), ("begin " + text, "ok"), ("term", text))
        for text in ["f(" + ",".join(["x"] * 400) + ")", "{x||" * 61 + "x" + "}" * 61, "f(" * 100 + "x" + ")" * 100]:
            console = console_of("x")
            self.assert_runs(console, ("begin " + text, "error"), ("term", "x"))

    def test_a_new_live_term_has_nothing_to_undo(self):
        console = console_of(TEXT)
        self.assert_runs(console, ("tune", "ok"), ("begin x", "ok"), ("undo", "error"), ("term", "x"))


class TestAnswers(Runs):

    def test_telling(self):
        console = console_of(TEXT)
        self.assert_runs(console, ("term", TEXT), ("names", "x y z"), ("width", "2"), ("live 0", "w"), ("live 1", "0"), ("live 2", "w"))
        self.assert_runs(console_of("x"), ("term", "x"), ("names", "-"), ("width", "1"), ("live 0", "error"))
        self.assert_runs(console_of("f()"), ("term", "f()"), ("names", "-"), ("width", "0"))
        self.assert_runs(console_of("{x||{y||f(x,y,zz,b)}}"), ("live 0", "b zz"), ("live 1", "0 b zz"), ("live 2", "error"), ("width", "4"))
        self.assert_runs(console_of("{x||x}"), ("live 0", "-"), ("names", "x"), ("live 1", "error"))

    def test_rename(self):
        console = console_of(TEXT)
        self.assert_runs(console, ("rename 0 q", "ok"), ("names", "q y z"), ("rename 0 y", "error"), ("rename 3 a", "error"),
                         ("rename 0 w", "error"), ("rename 2 w", "error"), ("names", "q y z"), ("rename 2 q", "ok"), ("names", "q y q"))

    def test_tune(self):
        self.assert_runs(console_of(TEXT), ("tune", "ok"), ("term", "{y|y|f(y,{w||g(y,w)},{y||w})}"), ("tune", "ok"), ("undo", "ok"),
                         ("undo", "ok"), ("term", TEXT), ("undo", "error"))

    def test_inline(self):
        console = console_of(TEXT)
        self.assert_runs(console, ("inline 1", "error"), ("inline 3", "error"), ("term", TEXT), ("inline 0", "ok"),
                         ("term", "f(y,{a||g(y,a)},{z||w})"), ("inline 0", "error"), ("undo", "ok"), ("term", TEXT))
        many = "{x|" + write_term(Term(joined(199))).replace("x", "y") + "|f(" + ",".join(["x"] * 199) + ")}"
        self.assert_runs(console_of(many), ("inline 0", "error"), ("term", many), ("undo", "error"))

    def test_wrap_and_unwrap(self):
        console = console_of("{x||f(x,y)}")
        self.assert_runs(
            console, ("wrap 2 q", "ok"), ("term", "{x||f({q||x},y)}"), ("unwrap 0", "error"), ("unwrap 2", "error"), ("wrap 9 q", "error"),
            ("wrap 0 y", "ok"), ("term", "{a||{x||f({q||x},y)}}"), ("unwrap 0", "ok"), ("unwrap 1", "ok"), ("term", "{x||f(x,y)}"),
            ("undo", "ok"), ("undo", "ok"), ("undo", "ok"), ("undo", "ok"), ("undo", "error"), ("term", "{x||f(x,y)}"))
        text = write_term(Term(joined(400)))
        self.assert_runs(console_of(text), ("wrap 0 q", "error"), ("wrap 399 q", "error"), ("wrap 400 q", "error"), ("undo", "error"), ("term", text))

    def test_many(self):
        console = console_of("{x||f(x,{y||f(y,{z||f(x,z)})})}")
        self.assert_runs(console, ("many a b c", "12"), ("many a", "0"), ("many a b", "2"), ("many a a", "error"), ("many a b a", "error"))
        self.assert_runs(console_of("x"), ("many a", "1"), ("many x", "1"), ("many x x", "error"))
        names = [one + other for one in "abcdefgh" for other in "abcdefgh"]
        text = "{x||" * 60 + "x" + "}" * 60
        self.assert_runs(console_of(text), ("many " + " ".join(names[:60]), str(60 ** 60)), ("many " + " ".join(names[:61]), "error"))

    def test_numbers_of_many_digits(self):
        console = console_of(TEXT)
        for number in ["3", "10", "999999999", "1000000000", "1" + "0" * 58, "9" * 60]:
            for line in ["live " + number, "inline " + number, "unwrap " + number, "rename " + number + " q", "wrap 9" + number + " q"]:
                self.assert_runs(console, (line, "error"))
        self.assert_runs(console, ("term", TEXT), ("undo", "error"))

    def test_more_than_ten_binders(self):
        text = "{a||" * 12 + "b" + "}" * 12
        console = console_of(text)
        self.assert_runs(console, ("rename 10 q", "ok"), ("names", "a " * 10 + "q a"), ("live 11", "b"), ("unwrap 11", "ok"), ("live 11", "error"))

    def test_all_small_terms(self):
        for term in drawn_terms(100, 9) + tuple(greatest_terms()):
            text = write_term(term)
            console = console_of(text)
            self.assert_runs(console, ("term", text), ("width", str(width(term))), ("tune", "ok"), ("undo", "ok"), ("term", text))
            self.assertEqual(read_term(console.run("term")), term)


class TestOtherLines(Runs):

    def test_without_a_live_term(self):
        for line in LINES:
            self.assert_runs(Console(), (line, "error"))

    def test_unknown_with_and_without_a_live_term(self):
        bare, console = Console(), console_of(TEXT)
        console.run("rename 0 q")
        told = self.all_told(console)
        for line in UNKNOWN:
            self.assert_runs(bare, (line, "unknown"), ("term", "error"))
            self.assert_runs(console, (line, "unknown"))
            self.assertEqual(self.all_told(console), told, line)
        self.assert_runs(console, ("undo", "ok"), ("term", TEXT), ("undo", "error"))

    def test_errors_change_nothing(self):
        console = console_of(TEXT)
        console.run("rename 0 q")
        told = self.all_told(console)
        for line in ["begin ", "begin f(", "rename 0 w", "rename 9 a", "inline 1", "inline 9", "wrap 99 q", "unwrap 0", "unwrap 9", "live 9", "many a a"]:
            self.assert_runs(console, (line, "error"))
            self.assertEqual(self.all_told(console), told, line)
        self.assert_runs(console, ("undo", "ok"), ("undo", "error"), ("undo", "error"), ("term", TEXT))

    def test_what_is_no_text(self):
        for console in [Console(), console_of(TEXT)]:
            for value in NO_TERMS + [b"term", 0, ["term"], ("term",), Term(X), bytearray(b"term")]:
                if not isinstance(value, str):
                    with self.assertRaises(NoNote) as caught:
                        console.run(value)
                    self.assertIs(caught.exception.line, None)

    def test_two_consoles(self):
        one, other = console_of("x"), console_of("y")
        self.assert_runs(one, ("wrap 0 q", "ok"), ("term", "{q||x}"))
        self.assert_runs(other, ("term", "y"), ("undo", "error"))

    def test_by_name(self):
        self.assert_same(Console().run(line="begin x"), "ok")
        with self.assertRaises(NoNote):
            Console().run(line=None)


if __name__ == "__main__":
    unittest.main()

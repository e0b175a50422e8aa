"""Tests of livenames.notes."""

import unittest

from livenames.errors import NoForm, NoNote, NoTerm, TooMany
from livenames.notes import read_term, write_form, write_term
from livenames.numbered import numbered
from livenames.terms import Term
from tests.checks import NO_TERMS, Checks
from tests.reading import place_of_fault, read_slowly
from tests.test_numbered import EXAMPLE, EXAMPLE_FORM, NO_ROOTS, NO_USES, around, form_bound
from tests.trees import EMPTY, PLAIN, RICH, X, Y, bound, deep, drawn_terms, greatest_terms, joined, named_trees
from tests.trees import nested_terms, small_terms
from tests.values import NAMES

RICH_TEXT = "top({x||f(x,free)},none(),{y|y|{x|g(x,y),{z||z},f()|y}},last)"

PLACES = {
    "": 1, "f(": 3, "f(,a)": 3, "a b": 2, "abcdefghi": 9, "a)": 2, " ": 1, " a": 1, "a ": 2, "A": 1, "aB": 2, "a1": 2, "1": 1,
    "(": 1, ")": 1, ",": 1, "|": 1, "}": 1, "{": 2, "{}": 2, "{|": 2, "{|a}": 2, "{x": 3, "{x}": 3, "{x,": 3, "{x(": 3,
    "{x|": 4, "{x|}": 4, "{x|,": 4, "{x|)": 4, "{x|a": 5, "{x|a}": 5, "{x|a)": 5, "{x|a,": 6, "{x|a,|": 6, "{x|a,}": 6,
    "{x||": 5, "{x||}": 5, "{x|||": 5, "{x||,": 5, "{x||a": 6, "{x||a,b}": 6, "{x||a|": 6, "{x||a)": 6, "{x||a}}": 7, "{x||a}b": 7,
    "{x||a}(": 7, "{abcdefghi||a}": 10, "{abcdefgh||a": 13, "abcdefgh(": 10, "abcdefghi(": 9, "f(abcdefghi)": 11,
    "f(a": 4, "f(a,": 5, "f(a,)": 5, "f(a,,": 5, "f(a|": 4, "f(a}": 4, "f(}": 3, "f(|": 3, "f((": 3, "f())": 4, "f()(": 4, "f()g": 4,
    "f(a)b": 5, "f(a)(": 5, "f(a),": 5, "f(a b)": 4, "f( a)": 3, "f (a)": 2, "a\n": 2, "\n": 1, "f(g(": 5, "f({x||y}": 9,
    "f({x||y},": 10, "{x|f(": 6, "{x|f()": 7, "{x|f(}": 6, "{x|{y||z}": 10, "{x||{y||z}": 11, "{x||f(a}": 8, "~": 1, "a.b": 2, "{ x||y}": 2,
}


def bent(text):
    """A text with a sign taken away, put in and changed at each place, and cut off at each place."""
    signs = "az({|,)} A"
    found = [text[:place] for place in range(len(text))]
    found += [text[:place] + text[place + 1:] for place in range(len(text))]
    found += [text[:place] + sign + text[place:] for place in range(len(text) + 1) for sign in signs]
    found += [text[:place] + sign + text[place + 1:] for place in range(len(text)) for sign in signs]
    return found


class TestWriteTerm(Checks):

    def test_texts(self):
        for tree, text in [
            (X, "x"), (EMPTY, "f()"), (PLAIN, "{x||x}"), (RICH, RICH_TEXT), (("join", "f", (X,)), "f(x)"),
            (("join", "f", (X, Y, EMPTY)), "f(x,y,f())"), (("bind", "x", (Y,), X), "{x|y|x}"),
            (("bind", "abcdefgh", (X, Y, PLAIN), EMPTY), "{abcdefgh|x,y,{x||x}|f()}"), (EXAMPLE.tree(), "{x|y|f(x,{y||g(x,y)})}"),
        ]:
            self.assert_same(write_term(Term(tree)), text)
            self.assertEqual(read_term(text), Term(tree))

    def test_there_and_back(self):
        trees = [tree for size in range(1, 5) for tree in named_trees(size)]
        terms = [Term(tree) for tree in trees] + list(nested_terms()) + list(drawn_terms(300, 9)) + greatest_terms()
        for term in terms:
            text = write_term(term)
            self.assertIs(type(text), str)
            self.assertEqual(read_slowly(text), term.tree())
            told = read_term(text)
            self.assertIs(type(told), Term)
            self.assertEqual(told, term)
            self.assert_same(write_term(told), text)

    def test_each_name_in_each_place(self):
        for name in NAMES:
            for text in [name, f"{name}()", f"{{{name}||{name}}}", f"{name}({name},{name})", f"{{{name}|{name}|x}}"]:
                self.assert_same(write_term(read_term(text)), text)


class TestReadTerm(Checks):

    def assert_place(self, place, text):
        with self.assertRaises(NoNote, msg=text) as caught:
            read_term(text)
        self.assert_same(caught.exception.line, place, text)

    def test_places(self):
        for text, place in PLACES.items():
            self.assertEqual(place_of_fault(text), place, text)
            self.assert_place(place, text)

    def test_bent_texts(self):
        found = []
        for text in ["x", "f()", "{x||x}", "f(x,y)", "{x|y,f()|g(x)}", "{x|{y||y}|{z|f(x)|y}}", "abcdefgh(abcdefgh)", "{x||{y||f(x,y,z)}}",
                     "{x|y|f(x,{y||g(x,y)})}"]:
            found += [text, *bent(text)]
        for text in dict.fromkeys(found):
            place = place_of_fault(text)
            if place is None:
                self.assert_same(read_term(text).tree(), read_slowly(text))
            else:
                self.assert_place(place, text)

    def test_all_short_texts(self):
        texts = [""]
        for _ in range(5):
            texts = [text + sign for text in texts for sign in "a({|,)}"]
            for text in texts[::3]:
                place = place_of_fault(text)
                if place is None:
                    self.assert_same(read_term(text).tree(), read_slowly(text))
                else:
                    self.assert_place(place, text)

    def test_every_sign(self):
        for code in range(ord(" "), ord("~") + 1):
            for begin in ["", "a", "f(", "f(a", "{", "{x|", "{x||a", "f()"]:
                text = begin + chr(code)
                place = place_of_fault(text)
                if place is not None:
                    self.assert_place(place, text)

    def test_what_is_no_text(self):
        for value in NO_TERMS + [b"x", 0, 1.5, ["x"], ("x",), Term(X), X, bytearray(b"x")]:
            if not isinstance(value, str):
                with self.assertRaises(NoNote) as caught:
                    read_term(value)
                self.assertIs(caught.exception.line, None)

    def test_limits_are_asked_behind_all_places(self):
        for most, tree in [(400, joined(401)), (60, bound(61)), (100, deep(101)), (400, joined(2000)), (100, deep(200)), (60, bound(190))]:
            text = self.slow_text(tree)
            with self.assertRaises(TooMany) as caught:
                read_term(text)
            self.assert_same(caught.exception.most, most)
            self.assert_place(len(text) + 1, text + ")")
            self.assert_place(len(text), text[:-1] + "?")
        for tree in [joined(400), bound(60), deep(100)]:
            self.assertEqual(read_term(self.slow_text(tree)), Term(tree))

    def slow_text(self, tree):
        if tree[0] == "use":
            return tree[1]
        if tree[0] == "join":
            return tree[1] + "(" + ",".join(self.slow_text(part) for part in tree[2]) + ")"
        return "{" + tree[1] + "|" + ",".join(self.slow_text(part) for part in tree[2]) + "|" + self.slow_text(tree[3]) + "}"

    def test_long_texts_that_break_off(self):
        self.assert_place(10001, "f(" * 5000)
        self.assert_place(16001, "{x||" * 4000)
        self.assert_place(12001, "{x|" * 4000)
        self.assert_place(9, "a" * 40000)
        self.assert_place(39999, "f(" + "a," * 19998 + ",)")


class TestWriteForm(Checks):

    def test_texts(self):
        for form, text in [
            (X, "x"), (EMPTY, "f()"), (form_bound(1, ("use", 0)), "{|0}"), (form_bound(2, X), "{|{|x}}"),
            (EXAMPLE_FORM, "{y|f(0,{|g(1,0)})}"), (("bind", (X, Y, EMPTY), ("use", 0)), "{x,y,f()|0}"),
            (form_bound(12, ("join", "f", (("use", 11), ("use", 9)))), "{|" * 12 + "f(11,9)" + "}" * 12),
        ]:
            self.assert_same(write_form(form), text)

    def test_forms_of_terms_are_written_as_terms_without_names(self):
        for term in small_terms()[::3] + drawn_terms(100, 9) + tuple(greatest_terms()):
            self.assert_same(write_form(numbered(term)), self.slow_text(numbered(term)))

    def slow_text(self, form):
        if form[0] == "use":
            return str(form[1])
        if form[0] == "join":
            return f"{form[1]}({','.join(map(self.slow_text, form[2]))})"
        return "{" + ",".join(map(self.slow_text, form[1])) + "|" + self.slow_text(form[2]) + "}"

    def test_no_forms(self):
        for bad in NO_ROOTS:
            for value in around(bad):
                self.assert_error(NoForm, value, write_form, value)
        for bad in NO_USES:
            value = form_bound(2, ("use", bad))
            self.assert_error(NoForm, value, write_form, value)

    def test_forms_beyond_the_limits(self):
        for form in [joined(401), form_bound(61, ("use", 0)), deep(101)]:
            self.assert_error(NoForm, form, write_form, form)
        for form in [joined(400), form_bound(60, ("use", 59)), deep(100)]:
            self.assert_same(write_form(form), self.slow_text(form))


class TestArguments(Checks):

    def test_no_term(self):
        for value in NO_TERMS:
            self.assert_error(NoTerm, value, write_term, value)

    def test_by_name(self):
        self.assertEqual(write_term(term=EXAMPLE), "{x|y|f(x,{y||g(x,y)})}")
        self.assertEqual(read_term(text="{x|y|f(x,{y||g(x,y)})}"), EXAMPLE)
        self.assertEqual(write_form(form=EXAMPLE_FORM), "{y|f(0,{|g(1,0)})}")


if __name__ == "__main__":
    unittest.main()

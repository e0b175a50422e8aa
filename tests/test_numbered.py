"""Tests of livenames.numbered."""

import unittest
from unittest import mock

from livenames.errors import NoForm, NoTerm, TooMany
from livenames.fewest import told_naming
from livenames.numbered import from_form, is_form, numbered
from livenames.terms import Term
from livenames.walks import alike, names_of
from livenames.writing import written
from tests.checks import NO_NUMBERS, NO_TERMS, Checks
from tests.linked import numbered_slowly
from tests.trees import EMPTY, PLAIN, RICH, X, Y, bound, deep, drawn_terms, greatest_terms, joined, named_trees, small_terms
from tests.values import NAMES, NO_NAMES, NO_TEXTS

Z = ("use", "z")
NOUGHT = ("use", 0)

# The example of the document: {x|y|f(x,{y||g(x,y)})}.
EXAMPLE = Term(("bind", "x", (Y,), ("join", "f", (X, ("bind", "y", (), ("join", "g", (X, Y)))))))
EXAMPLE_FORM = ("bind", (Y,), ("join", "f", (NOUGHT, ("bind", (), ("join", "g", (("use", 1), NOUGHT))))))


def form_bound(many, body):
    for _ in range(many):
        body = ("bind", (), body)
    return body


# Each one is no form because of its root.
NO_ROOTS = [
    None, True, False, 0, 1, "", "x", "use", b"x", [], (), {}, set(), object(), Term(X), EXAMPLE, mock.ANY,
    (None,), ("use",), ("join",), ("bind",), ("join", "f"), ("bind", ()), ("bind", X), ("use", "x", ()), ("use", 0, 0),
    ("join", "f", (), ()), ("bind", (), X, X), PLAIN, ("bind", "x", X), ("bind", None, X), ("bind", None, (), X),
    ("bind", X, ()), ("bind", X, X), ("bind", [], X), ("bind", [X], X), ("bind", (), ()), ("bind", (), None),
    ("bind", (), [X]), ("bind", (), (X,)), ("bind", {}, X), ("bind", "", X), ("bind", (), 0), ("bind", (0,), X),
    ("join", "f", [X]), ("join", "f", []), ("join", "f", X), ("join", "f", None), ("join", "f", ""), ("join", 0, ()),
    ("join", "f", (0,)), ("join", "f", ("x",)), ("join", "f", {}), ["use", "x"], ["bind", (), X], ["join", "f", ()],
    ("uses", "x"), ("Use", "x"), (None, "x"), (b"use", "x"), (["use"], "x"), ({}, "x"), (mock.ANY, "x"), (X, "x"),
    ("x", "use"), ("use", mock.ANY), ("join", mock.ANY, ()), ("binds", (), X), ("use", (), X), ("join", (), X), ("", (), X),
    ("joins", "f", ()), ("bind", "f", ()), ("use", "f", ()), ("bind", X), ("join", X), (mock.ANY, (), X), (mock.ANY, "f", ()),
]
# No use within two binders has these.
NO_USES = NO_NAMES + [bad for bad in NO_TEXTS if repr(bad) not in ["0", "1"]]
NO_USES += [bad for bad in NO_NUMBERS if bad != "x"] + [-1, -2, 2, 3, 10 ** 50, -10 ** 50]


def around(bad):
    """Forms but for a bad one, at each kind of place."""
    return [
        bad, ("join", "f", (bad,)), ("join", "f", (X, bad, NOUGHT)), ("bind", (bad,), X), ("bind", (X, bad), NOUGHT),
        ("bind", (), bad), ("bind", (X,), ("join", "f", (NOUGHT, bad))), ("bind", (("bind", (bad,), X),), X),
    ]


class TestNumbered(Checks):

    def test_the_example(self):
        self.assert_same(numbered(EXAMPLE), EXAMPLE_FORM)

    def test_inner_and_outer_binders(self):
        tree = ("bind", "x", (), ("bind", "y", (), ("bind", "z", (), ("join", "f", (X, Y, Z, ("use", "w"))))))
        uses = (("use", 2), ("use", 1), NOUGHT, ("use", "w"))
        self.assert_same(numbered(Term(tree)), form_bound(3, ("join", "f", uses)))
        self.assert_same(numbered(Term(bound(3))), form_bound(3, NOUGHT))

    def test_uses_in_ahead_terms_are_not_within_that_binder(self):
        tree = ("bind", "x", (X,), ("bind", "y", (X, ("bind", "z", (), X)), ("join", "f", (X, Y))))
        self.assert_same(numbered(Term(tree)), ("bind", (X,), ("bind", (NOUGHT, ("bind", (), ("use", 1))), (
            "join", "f", (("use", 1), NOUGHT)))))

    def test_free_uses_and_joins_without_parts(self):
        for tree in [X, EMPTY, ("join", "x", (X, EMPTY, Y))]:
            self.assert_same(numbered(Term(tree)), tree)
        self.assert_same(numbered(Term(("bind", "x", (EMPTY,), Y))), ("bind", (EMPTY,), Y))
        self.assert_same(numbered(Term(("join", "f", (PLAIN, X)))), ("join", "f", (("bind", (), NOUGHT), X)))

    def test_binders_between_that_do_not_hold_the_meant_one_count_not(self):
        tree = ("bind", "x", (), ("join", "f", (("bind", "y", (), Y), ("bind", "x", (), ("bind", "y", (), X)), X)))
        self.assert_same(numbered(Term(tree)), ("bind", (), ("join", "f", (
            ("bind", (), NOUGHT), form_bound(2, ("use", 1)), NOUGHT))))

    def test_all_small_terms(self):
        for term in small_terms() + drawn_terms(200, 9) + (Term(RICH),):
            self.assert_same(numbered(term), numbered_slowly(term.tree()))

    def test_alike_exactly_if_the_forms_are_equal(self):
        terms = [Term(tree) for size in range(1, 4) for tree in named_trees(size)]
        terms += [Term(tree) for tree in named_trees(4)[::9]]
        forms = [numbered(term) for term in terms]
        for one, form in zip(terms, forms):
            for other, other_form in zip(terms, forms):
                self.assertIs(alike(one, other), form == other_form)

    def test_other_names_have_equal_forms(self):
        for term in small_terms()[::5]:
            names = ["k" + name for name in names_of(term)]
            self.assert_same(numbered(written(term, [name * 2 for name in names])), numbered(term))


class TestIsForm(Checks):

    def test_forms(self):
        for form in [X, EMPTY, EXAMPLE_FORM, form_bound(2, NOUGHT), form_bound(2, ("use", 1)), form_bound(1, EMPTY)]:
            self.assertIs(is_form(form), True, form)
        for name in NAMES:
            for form in [("use", name), ("join", name, ()), ("bind", (("use", name),), NOUGHT)]:
                self.assertIs(is_form(form), True, form)

    def test_no_forms(self):
        for bad in NO_ROOTS + [("join", bad, (X,)) for bad in NO_NAMES + NO_TEXTS]:
            for value in around(bad):
                self.assertIs(is_form(value), False, value)

    def test_numbers_of_uses(self):
        for bad in NO_USES:
            self.assertIs(is_form(form_bound(2, ("use", bad))), False, bad)
            self.assertIs(is_form(form_bound(2, ("join", "f", (X, NOUGHT, ("use", bad))))), False, bad)
        for many in range(4):
            told = [is_form(form_bound(many, ("use", number))) for number in range(-1, 6)]
            self.assert_same(told, [False] + [True] * many + [False] * (6 - many))
        self.assertIs(is_form(("bind", (NOUGHT,), NOUGHT)), False)
        self.assertIs(is_form(("bind", (), ("bind", (NOUGHT,), ("use", 1)))), True)
        self.assertIs(is_form(("bind", (), ("bind", (("use", 1),), NOUGHT))), False)
        self.assertIs(is_form(("join", "f", (("bind", (), NOUGHT), NOUGHT))), False)

    def test_limits(self):
        self.assertIs(is_form(joined(400)), True)
        self.assertIs(is_form(joined(401)), False)
        self.assertIs(is_form(form_bound(60, NOUGHT)), True)
        self.assertIs(is_form(form_bound(61, NOUGHT)), False)
        self.assertIs(is_form(deep(100)), True)
        self.assertIs(is_form(deep(101)), False)
        self.assertIs(is_form(("bind", (deep(99),), NOUGHT)), True)
        self.assertIs(is_form(("bind", (deep(100),), NOUGHT)), False)


class TestFromForm(Checks):

    def test_the_told_naming(self):
        self.assertEqual(from_form(EXAMPLE_FORM).tree(), ("bind", "y", (Y,), ("join", "f", (Y, ("bind", "a", (), (
            "join", "g", (Y, ("use", "a"))))))))
        self.assertEqual(from_form(form_bound(3, NOUGHT)).tree(), bound(3)[:1] + ("a", (), ("bind", "a", (), (
            "bind", "a", (), ("use", "a")))))
        self.assertEqual(from_form(X), Term(X))
        # The free names come first in the pool, and a is one of them.
        form = ("join", "f", (("use", "a"), form_bound(2, ("join", "g", (NOUGHT, ("use", 1))))))
        self.assertEqual(names_of(from_form(form)), ("a", "b"))
        form = form_bound(2, ("join", "g", (NOUGHT, ("use", 1), ("use", "a"))))
        self.assertEqual(names_of(from_form(form)), ("b", "c"))

    def test_all_small_terms(self):
        for term in small_terms() + drawn_terms(200, 9) + (Term(RICH), *greatest_terms()):
            form = numbered(term)
            told = from_form(form)
            self.assertIs(type(told), Term)
            self.assertIs(is_form(form), True)
            self.assertIs(alike(term, told), True)
            self.assert_same(numbered(told), form)
            self.assertEqual(told, written(term, told_naming(term)))
            self.assertEqual(names_of(told), told_naming(told))

    def test_no_forms(self):
        for bad in NO_ROOTS + [("join", bad, (X,)) for bad in NO_NAMES + NO_TEXTS]:
            for value in around(bad):
                self.assert_error(NoForm, value, from_form, value)
        for bad in NO_USES:
            value = form_bound(2, ("use", bad))
            self.assert_error(NoForm, value, from_form, value)
        for value in [NOUGHT, ("use", -1), ("use", True), ("bind", (NOUGHT,), X), form_bound(60, ("use", 60))]:
            self.assert_error(NoForm, value, from_form, value)

    def assert_too_many(self, most, form):
        with self.assertRaises(TooMany) as caught:
            from_form(form)
        self.assert_same(caught.exception.most, most)

    def test_limits(self):
        self.assertEqual(len(from_form(joined(400))), 400)
        self.assert_too_many(400, joined(401))
        self.assert_too_many(400, joined(2000))
        self.assertEqual(len(from_form(form_bound(60, ("use", 59))).binders()), 60)
        self.assert_too_many(60, form_bound(61, ("use", 60)))
        self.assertEqual(from_form(deep(100)).depth(), 100)
        self.assert_too_many(100, deep(101))
        self.assert_too_many(100, deep(200))

    def test_which_limit_comes_first(self):
        self.assert_too_many(400, ("join", "f", (form_bound(61, NOUGHT), deep(101)) + (X,) * 400))
        self.assert_too_many(400, ("join", "f", (deep(101),) + (X,) * 400))
        self.assert_too_many(60, form_bound(61, deep(101)))

    def test_no_form_comes_ahead_of_too_many(self):
        for value in [
            ("join", "f", (X,) * 500 + (None,)), form_bound(70, ("use", 70)), form_bound(70, ("use", True)),
            ("join", "f", (deep(150), NOUGHT)), ("join", "f", (NOUGHT,) + (X,) * 400),
        ]:
            self.assertIs(is_form(value), False)
            self.assert_error(NoForm, value, from_form, value)

    def test_many_free_names_and_binders_beyond_the_limits(self):
        uses = tuple(("use", name) for name in ["a", "b", "c"]) * 600
        self.assert_too_many(400, form_bound(150, ("join", "f", uses)))


class TestArguments(Checks):

    def test_no_term(self):
        for value in NO_TERMS:
            self.assert_error(NoTerm, value, numbered, value)

    def test_by_name(self):
        self.assertEqual(numbered(term=EXAMPLE), EXAMPLE_FORM)
        self.assertIs(is_form(value=EXAMPLE_FORM), True)
        self.assertEqual(from_form(form=X), Term(X))
        self.assert_error(NoForm, None, from_form, form=None)

    def test_the_term_stays(self):
        term = Term(RICH)
        numbered(term)
        self.assertEqual(term, Term(RICH))
        self.assert_same(term.tree(), RICH)


if __name__ == "__main__":
    unittest.main()

"""Tests of livenames.live."""

import random
import unittest

from livenames.errors import BinderError, NoBinder, NoLinks, NoNames, NoNode, NoTerm, NothingBack, NoUse, TooMany
from livenames.fewest import told_naming
from livenames.inlining import can_inline, inline
from livenames.live import Live
from livenames.notes import read_term, write_term
from livenames.putting import put
from livenames.terms import Term
from livenames.walks import free_names, names_of
from livenames.writing import written
from tests.checks import NO_TERMS, Checks, no_numbers_below
from tests.linked import Made, binders_of, changed, linked, nodes_of
from tests.slow import Walk
from tests.trees import EMPTY, PLAIN, X, Y, bound, deep, drawn_terms, greatest_terms, joined, small_terms
from tests.values import NO_NAMES, NO_TEXTS

# {x|y|f(x,{y||g(x,y)},{z||w})}
TEXT = "{x|y|f(x,{y||g(x,y)},{z||w})}"
W = ("use", "w")


def live_of(text):
    return Live(read_term(text))


def told_by(live):
    """All that a live term tells."""
    return (live.kept(), live.named(), len(live))


def wrapped_slowly(term, index, name):
    """What the document says of a new binder round a node."""
    tree = linked(term.tree())
    node = nodes_of(tree)[index]
    # The linked tree means the same by any names, so that the new binder needs none to find its uses.
    walk = Walk(term)
    binder = len([at for at in term.binders() if at < index])
    made = Made(wrap_node(tree, node, name))
    if made.walk.is_right(made.old):
        return written(made.own_term, made.old)
    taken = [*walk.names, *walk.free]
    letters = "abcdefghijklmnopqrstuvwxyz"
    new = next(name for name in [*letters, *(one + other for one in letters for other in letters)] if name not in taken)
    return written(made.own_term, [*made.old[:binder], new, *made.old[binder + 1:]])


def wrap_node(tree, node, name):
    class New:
        pass
    new = New()
    new.name = name
    return changed(tree, lambda one: ("bind", new, [], one) if one is node else None)


class TestKept(Checks):

    def test_at_first(self):
        term = read_term(TEXT)
        live = Live(term)
        self.assertEqual(live.kept(), term)
        self.assertIs(type(live.kept()), Term)
        self.assert_same((live.named(), len(live)), (("x", "y", "z"), 0))
        self.assert_same(Live(Term(X)).named(), ())

    def test_no_term(self):
        for value in NO_TERMS:
            self.assert_error(NoTerm, value, Live, value)

    def test_deeds_return_none(self):
        live = live_of(TEXT)
        for told in [live.rename(0, "p"), live.tune(), live.put(1, Term(EMPTY), {}), live.wrap(0, "q"), live.unwrap(0),
                     live.inline(0), live.undo()]:
            self.assertIs(told, None)

    def test_equal_to_itself_alone(self):
        live = live_of(TEXT)
        for other in [live.kept(), live.kept().tree(), TEXT, None, 0, (), []]:
            self.assertIs(live == other, False)
        self.assertIs(live == live, True)


class TestRename(Checks):

    def test_rename(self):
        live = live_of(TEXT)
        live.rename(0, "q")
        self.assertEqual(write_term(live.kept()), "{q|y|f(q,{y||g(q,y)},{z||w})}")
        live.rename(1, "x")
        self.assertEqual(write_term(live.kept()), "{q|y|f(q,{x||g(q,x)},{z||w})}")
        live.rename(2, "q")
        self.assert_same((live.named(), len(live)), (("q", "x", "q"), 3))

    def test_the_same_name_again(self):
        live = live_of(TEXT)
        live.rename(1, "y")
        self.assertEqual(told_by(live), (read_term(TEXT), ("x", "y", "z"), 1))
        live.undo()
        self.assertEqual(len(live), 0)

    def test_no_binder(self):
        live = live_of(TEXT)
        for binder in no_numbers_below(3):
            for name in ["q", "", None]:
                self.assert_error(NoBinder, binder, live.rename, binder, name)
        self.assertEqual(told_by(live), (read_term(TEXT), ("x", "y", "z"), 0))

    def test_no_names_and_wrong_ones(self):
        live = live_of(TEXT)
        for name in NO_NAMES + NO_TEXTS:
            self.assert_error(NoNames, name, live.rename, 0, name)
        for binder, name in [(0, "y"), (0, "w"), (1, "x"), (2, "w")]:
            self.assert_error(NoNames, name, live.rename, binder, name)
        self.assertEqual(told_by(live), (read_term(TEXT), ("x", "y", "z"), 0))

    def test_all_small_terms(self):
        for term in small_terms()[::7]:
            walk = Walk(term)
            for binder in walk.binders:
                for name in ["x", "y", "z", "ab", "q"]:
                    live = Live(term)
                    naming = tuple([*walk.names[:binder], name, *walk.names[binder + 1:]])
                    if walk.is_right(naming):
                        live.rename(binder, name)
                        self.assertEqual(told_by(live), (written(term, naming), naming, 1))
                    else:
                        self.assert_error(NoNames, name, live.rename, binder, name)
                        self.assertEqual(told_by(live), (term, names_of(term), 0))


class TestTunePutInline(Checks):

    def test_tune(self):
        live = live_of(TEXT)
        live.tune()
        self.assertEqual(write_term(live.kept()), "{y|y|f(y,{w||g(y,w)},{y||w})}")
        self.assertEqual(len(live), 1)
        live.tune()
        self.assertEqual(len(live), 2)
        for term in small_terms()[::9] + tuple(greatest_terms()):
            live = Live(term)
            live.tune()
            self.assertEqual(live.kept(), written(term, told_naming(term)))

    def test_put(self):
        live = live_of(TEXT)
        live.put(1, Term(Y), {"y": None})
        self.assertEqual(write_term(live.kept()), "{x|y|f(y,{y||g(x,y)},{z||w})}")
        live.put(3, Term(("join", "h", (X, Y))), {"x": 1, "y": None})
        self.assertEqual(write_term(live.kept()), "{x|y|f(y,{a||g(x,h(a,y))},{z||w})}")
        self.assertEqual(len(live), 2)

    def test_put_raises_as_stage_10(self):
        live = live_of(TEXT)
        for value in NO_TERMS:
            self.assert_error(NoTerm, value, live.put, None, value, None)
        for number in no_numbers_below(5):
            self.assert_error(NoUse, number, live.put, number, Term(X), None)
        for links in [None, {}, {"x": 1}, {"x": True}, {"x": 0, "y": 0}, [("x", 0)]]:
            self.assert_error(NoLinks, links, live.put, 1, Term(X), links)
        with self.assertRaises(TooMany) as caught:
            live.put(1, Term(joined(400)), {"x": None})
        self.assertEqual(caught.exception.most, 400)
        self.assertEqual(told_by(live), (read_term(TEXT), ("x", "y", "z"), 0))

    def test_inline(self):
        live = live_of(TEXT)
        live.inline(0)
        self.assertEqual(write_term(live.kept()), "f(y,{a||g(y,a)},{z||w})")
        self.assert_same((live.named(), len(live)), (("a", "z"), 1))

    def test_inline_raises_as_stage_11(self):
        live = live_of(TEXT)
        for binder in no_numbers_below(3) + [1, 2]:
            self.assert_error(NoBinder, binder, live.inline, binder)
        self.assertEqual(told_by(live), (read_term(TEXT), ("x", "y", "z"), 0))
        live = Live(Term(("bind", "x", (joined(199),), ("join", "f", (X,) * 199))))
        with self.assertRaises(TooMany) as caught:
            live.inline(0)
        self.assertEqual((caught.exception.most, len(live), len(live.kept())), (400, 0, 400))

    def test_small_terms(self):
        guest = Term(("bind", "y", (), ("join", "h", (X, Y))))
        for term in small_terms()[::9] + drawn_terms(100, 9)[::2]:
            for binder in range(len(term.binders())):
                if can_inline(term, binder):
                    live = Live(term)
                    live.inline(binder)
                    self.assertEqual(live.kept(), inline(term, binder))
            for number in range(len(term.uses())):
                live = Live(term)
                live.put(number, guest, {"x": None})
                self.assertEqual(live.kept(), put(term, number, guest, {"x": None}))


class TestWrap(Checks):

    def wrapped(self, text, index, name):
        live = live_of(text)
        live.wrap(index, name)
        self.assertEqual(len(live), 1)
        return write_term(live.kept())

    def test_a_name_that_catches_nothing(self):
        self.assertEqual(self.wrapped("x", 0, "y"), "{y||x}")
        self.assertEqual(self.wrapped("f()", 0, "f"), "{f||f()}")
        self.assertEqual(self.wrapped("f(x,y)", 1, "y"), "f({y||x},y)")
        self.assertEqual(self.wrapped("{x||x}", 0, "x"), "{x||{x||x}}")
        self.assertEqual(self.wrapped("{x|y|x}", 0, "x"), "{x||{x|y|x}}")
        self.assertEqual(self.wrapped("{x|y|x}", 1, "x"), "{x|{x||y}|x}")

    def test_the_first_name_otherwise(self):
        self.assertEqual(self.wrapped("x", 0, "x"), "{a||x}")
        self.assertEqual(self.wrapped("f(a,b)", 0, "b"), "{c||f(a,b)}")
        self.assertEqual(self.wrapped("f(a,b)", 1, "a"), "f({c||a},b)")
        self.assertEqual(self.wrapped("{x||x}", 1, "x"), "{x||{a||x}}")
        self.assertEqual(self.wrapped("{a||{b||f(a,c)}}", 1, "a"), "{a||{d||{b||f(a,c)}}}")
        letters = ",".join("abcdefghijklmnopqrstuvwxyz")
        self.assertEqual(self.wrapped(f"f({letters})", 0, "q"), "{aa||f(" + letters + ")}")

    def test_all_small_terms(self):
        for term in small_terms()[::7] + drawn_terms(60, 4):
            for index in range(len(term)):
                for name in ["x", "z", "q", "ab"]:
                    live = Live(term)
                    live.wrap(index, name)
                    self.assertEqual(live.kept(), wrapped_slowly(term, index, name))
                    self.assertEqual((len(live), free_names(live.kept())), (1, free_names(term)))
                    binder = live.kept().binders().index(index)
                    live.unwrap(binder)
                    self.assertEqual(live.kept(), term)

    def test_no_node(self):
        live = live_of(TEXT)
        for index in no_numbers_below(len(live.kept())):
            for name in ["q", "Q", None]:
                self.assert_error(NoNode, index, live.wrap, index, name)
        self.assertEqual(told_by(live), (read_term(TEXT), ("x", "y", "z"), 0))

    def test_no_name(self):
        for term in [read_term(TEXT), Term(joined(400)), Term(bound(60)), Term(deep(100))]:
            live = Live(term)
            for name in NO_NAMES + NO_TEXTS:
                self.assert_error(NoNames, name, live.wrap, 0, name)
            self.assertEqual(told_by(live), (term, names_of(term), 0))

    def test_limits(self):
        for most, tree, index in [(400, joined(400), 0), (60, bound(60), 5), (100, deep(100), 50), (400, joined(400), 399)]:
            live = Live(Term(tree))
            with self.assertRaises(TooMany) as caught:
                live.wrap(index, "q")
            self.assert_same(caught.exception.most, most)
            self.assertEqual((live.kept().tree(), len(live)), (tree, 0))
        for tree in [joined(399), bound(59), deep(99)]:
            live = Live(Term(tree))
            live.wrap(len(live.kept()) - 1, "q")
            self.assertEqual(len(live), 1)
            self.assertEqual(len(live.kept()), len(Term(tree)) + 1)


class TestUnwrap(Checks):

    def test_unwrap(self):
        live = live_of(TEXT)
        live.unwrap(2)
        self.assertEqual(write_term(live.kept()), "{x|y|f(x,{y||g(x,y)},w)}")
        live = live_of("{x||{x||x}}")
        live.unwrap(0)
        self.assertEqual(write_term(live.kept()), "{x||x}")
        live = live_of("{x||{y||{z||f()}}}")
        live.unwrap(1)
        live.unwrap(1)
        live.unwrap(0)
        self.assertEqual((write_term(live.kept()), len(live)), ("f()", 3))

    def test_binders_with_uses_or_ahead_ones_and_no_binders(self):
        live = live_of("{x|y|f({y||y},{z|x|w},x)}")
        for binder in no_numbers_below(3) + [0, 1, 2]:
            self.assert_error(NoBinder, binder, live.unwrap, binder)
        self.assertEqual(len(live), 0)
        live = live_of("{x|y|y}")
        self.assert_error(NoBinder, 0, live.unwrap, 0)

    def test_all_small_terms(self):
        for term in small_terms()[::5] + drawn_terms(60, 9):
            tree = linked(term.tree())
            bounds = binders_of(tree)
            used = [node[1] for node in nodes_of(tree) if node[0] == "use"]
            for binder, index in enumerate(term.binders()):
                live = Live(term)
                if bounds[binder] in used or term[index][2]:
                    self.assert_error(NoBinder, binder, live.unwrap, binder)
                else:
                    live.unwrap(binder)
                    made = Made(changed(tree, lambda one: one[3] if one[0] == "bind" and one[1] is bounds[binder] else None))
                    self.assertEqual(live.kept(), written(made.own_term, made.old))


class TestUndo(Checks):

    DEEDS = [
        lambda live: live.rename(0, "q"), lambda live: live.rename(0, "x"), lambda live: live.tune(),
        lambda live: live.put(0, Term(X), {"x": None}), lambda live: live.put(1, Term(EMPTY), {}), lambda live: live.inline(0),
        lambda live: live.wrap(3, "q"), lambda live: live.wrap(3, "x"), lambda live: live.unwrap(2),
    ]

    def test_each_kind_of_deed(self):
        for deed in self.DEEDS:
            live = live_of(TEXT)
            deed(live)
            self.assertEqual(len(live), 1)
            live.undo()
            self.assertEqual(told_by(live), (read_term(TEXT), ("x", "y", "z"), 0))

    def test_two_deeds_and_another_one_instead(self):
        for first in self.DEEDS[:5]:
            for second in self.DEEDS:
                live = live_of(TEXT)
                first(live)
                between = told_by(live)
                second(live)
                self.assertEqual(len(live), 2)
                live.undo()
                self.assertEqual(told_by(live), between)
                live.tune()
                self.assertEqual(len(live), 2)
                live.undo()
                live.undo()
                self.assertEqual(told_by(live), (read_term(TEXT), ("x", "y", "z"), 0))

    def test_nothing_back(self):
        live = live_of(TEXT)
        for _ in range(2):
            with self.assertRaises(NothingBack) as caught:
                live.undo()
            self.assert_same(caught.exception.many, 0)
        live.tune()
        live.undo()
        with self.assertRaises(NothingBack) as caught:
            live.undo()
        self.assertEqual(told_by(live), (read_term(TEXT), ("x", "y", "z"), 0))

    def test_deeds_that_raise_are_not_undone(self):
        live = live_of(TEXT)
        live.tune()
        told = told_by(live)
        for deed in [lambda: live.rename(0, "w"), lambda: live.inline(2), lambda: live.unwrap(0), lambda: live.wrap(99, "q"),
                     lambda: live.put(0, Term(X), {})]:
            with self.assertRaises(BinderError):
                deed()
            self.assertEqual(told_by(live), told)

    def test_many_deeds_by_chance(self):
        dice = random.Random(4)
        for term in drawn_terms(40, 9):
            live = Live(term)
            told = [told_by(live)]
            for _ in range(40):
                self.some_deed(dice, live)
                if len(live) > len(told) - 1:
                    told.append(told_by(live))
                if dice.random() < 0.2 and len(live) > 0:
                    live.undo()
                    told.pop()
                self.assertEqual(told_by(live), told[-1])
            while len(live) > 0:
                live.undo()
                told.pop()
                self.assertEqual(told_by(live), told[-1])
            self.assertEqual(len(told), 1)

    def some_deed(self, dice, live):
        number = dice.randrange(10)
        name = dice.choice(["x", "y", "q", "ab"])
        guest = Term(("bind", "y", (X,), ("join", "h", (X, Y))))
        try:
            dice.choice([
                lambda: live.rename(number, name), lambda: live.inline(number), lambda: live.unwrap(number),
                lambda: live.wrap(number, name), lambda: live.put(number, guest, {"x": None}), live.tune,
            ])()
        except (BinderError, TooMany):
            pass


class TestTwin(Checks):

    def test_twin(self):
        live = live_of(TEXT)
        live.tune()
        live.rename(2, "q")
        twin = live.twin()
        self.assertIs(type(twin), Live)
        self.assertIsNot(twin, live)
        self.assertEqual(told_by(twin), told_by(live))

    def test_goes_on_by_itself(self):
        live = live_of(TEXT)
        live.rename(0, "q")
        told = told_by(live)
        twin = live.twin()
        twin.unwrap(2)
        twin.tune()
        self.assertEqual(told_by(live), told)
        self.assertEqual(len(twin), 3)
        live.undo()
        self.assertEqual(len(live), 0)
        for _ in range(3):
            twin.undo()
        self.assertEqual(told_by(twin), (read_term(TEXT), ("x", "y", "z"), 0))
        self.assert_error(NoBinder, 7, twin.inline, 7)

    def test_in_a_trial(self):
        live = live_of(TEXT)
        with live.trial():
            live.tune()
            twin = live.twin()
        self.assertEqual((len(live), len(twin)), (0, 1))
        self.assertEqual(twin.named(), ("y", "w", "y"))


class TestTrial(Checks):

    def test_gives_the_live_term_itself(self):
        live = live_of(TEXT)
        with live.trial() as given:
            self.assertIs(given, live)

    def test_taken_back(self):
        live = live_of(TEXT)
        live.rename(0, "q")
        told = told_by(live)
        with live.trial():
            live.tune()
            live.inline(0)
            self.assertEqual(len(live), 3)
        self.assertEqual(told_by(live), told)
        live.undo()
        self.assertEqual(told_by(live), (read_term(TEXT), ("x", "y", "z"), 0))

    def test_what_was_undone_within_is_back(self):
        live = live_of(TEXT)
        live.rename(0, "q")
        live.tune()
        told = told_by(live)
        with live.trial():
            live.undo()
            live.undo()
            live.unwrap(2)
        self.assertEqual(told_by(live), told)
        live.undo()
        self.assertEqual(live.named(), ("q", "y", "z"))

    def test_kept(self):
        live = live_of(TEXT)
        trial = live.trial()
        with trial as given:
            given.rename(0, "q")
            self.assertIs(trial.keep(), None)
            given.rename(0, "p")
        self.assert_same((live.named(), len(live)), (("p", "y", "z"), 2))
        live.undo()
        live.undo()
        self.assertEqual(told_by(live), (read_term(TEXT), ("x", "y", "z"), 0))

    def test_an_exception_passes_on(self):
        for kind in [ValueError, KeyError, KeyboardInterrupt, ZeroDivisionError, NoBinder]:
            for keeps in [True, False]:
                live = live_of(TEXT)
                live.tune()
                told = told_by(live)
                trial = live.trial()
                error = kind("told")
                with self.assertRaises(kind) as caught:
                    with trial:
                        live.undo()
                        live.rename(0, "q")
                        if keeps:
                            trial.keep()
                        raise error
                self.assertIs(caught.exception, error)
                self.assertEqual(told_by(live), told)

    def test_an_exception_that_stays_in_the_block(self):
        live = live_of(TEXT)
        trial = live.trial()
        with trial:
            live.rename(0, "q")
            with self.assertRaises(NoBinder):
                live.unwrap(0)
            trial.keep()
        self.assertEqual((live.named(), len(live)), (("q", "y", "z"), 1))

    def test_as_it_was_ahead_of_the_block(self):
        live = live_of(TEXT)
        trial = live.trial()
        live.rename(0, "q")
        with trial:
            live.rename(0, "p")
        self.assertEqual((live.named(), len(live)), (("q", "y", "z"), 1))

    def test_trials_in_trials(self):
        for keeps_outer in [True, False]:
            for keeps_inner in [True, False]:
                live = live_of(TEXT)
                outer = live.trial()
                with outer:
                    live.rename(0, "p")
                    inner = live.trial()
                    with inner:
                        live.rename(1, "q")
                        if keeps_inner:
                            inner.keep()
                    self.assertEqual(len(live), 2 if keeps_inner else 1)
                    if keeps_outer:
                        outer.keep()
                wanted = ("p" if keeps_outer else "x", "q" if keeps_outer and keeps_inner else "y", "z")
                self.assertEqual(live.named(), wanted)

    def test_goes_on_behind_it(self):
        live = live_of(TEXT)
        with live.trial():
            live.tune()
        live.rename(0, "q")
        with live.trial():
            live.undo()
        live.rename(0, "p")
        self.assertEqual((live.named(), len(live)), (("p", "y", "z"), 2))


class TestTrying(Checks):

    def test_calls_the_guest_and_returns_what_it_returns(self):
        live = live_of(TEXT)
        for told in [None, 7, [1], "text", live]:
            given = []

            def guest(one):
                given.append(one)
                one.tune()
                return told
            self.assertIs(live.trying(guest), told)
            self.assertEqual(len(given), 1)
            self.assertIs(given[0], live)
            self.assertEqual(told_by(live), (read_term(TEXT), ("x", "y", "z"), 0))

    def test_kept_just_if_true(self):
        for kept in [False, None, 1, 0, "yes", [1], (True,), 1.0, object()]:
            live = live_of(TEXT)
            live.trying(lambda one: one.tune(), kept=kept)
            self.assertEqual(told_by(live), (read_term(TEXT), ("x", "y", "z"), 0))
        live = live_of(TEXT)
        live.trying(lambda one: one.tune(), kept=True)
        self.assertEqual((live.named(), len(live)), (("y", "w", "y"), 1))

    def test_kept_by_name_alone(self):
        live = live_of(TEXT)
        with self.assertRaises(TypeError):
            live.trying(lambda one: None, True)

    def test_an_exception_passes_on(self):
        for kept in [True, False]:
            live = live_of(TEXT)
            error = KeyError("told")

            def guest(one):
                one.tune()
                raise error
            with self.assertRaises(KeyError) as caught:
                live.trying(guest, kept=kept)
            self.assertIs(caught.exception, error)
            self.assertEqual(told_by(live), (read_term(TEXT), ("x", "y", "z"), 0))

    def test_within_a_trial(self):
        live = live_of(TEXT)
        live.trying(lambda one: one.trying(lambda other: other.tune(), kept=True))
        self.assertEqual(len(live), 0)
        live.trying(lambda one: one.trying(lambda other: other.tune()), kept=True)
        self.assertEqual(len(live), 0)


class TestArguments(Checks):

    def test_by_name(self):
        live = Live(term=read_term(TEXT))
        live.rename(name="q", binder=0)
        live.put(links={"x": 0}, other=Term(X), number=1)
        live.wrap(name="v", index=0)
        live.unwrap(binder=0)
        live.inline(binder=0)
        self.assertEqual(write_term(live.kept()), "f(y,{a||g(y,a)},{z||w})")
        self.assertEqual(live.trying(kept=True, guest=len), 5)

    def test_what_is_handed_in_stays(self):
        links = {"x": 0}
        guest = Term(X)
        live = live_of(TEXT)
        live.put(1, guest, links)
        links["x"] = None
        self.assertEqual(write_term(live.kept()), TEXT)
        self.assertEqual(guest, Term(X))

    def test_the_greatest_terms(self):
        for term in greatest_terms():
            live = Live(term)
            live.tune()
            if term.binders():
                live.rename(len(term.binders()) - 1, "q" * 8)
            live.put(0, Term(EMPTY), {})
            while len(live) > 0:
                live.undo()
            self.assertEqual(live.kept(), term)


if __name__ == "__main__":
    unittest.main()

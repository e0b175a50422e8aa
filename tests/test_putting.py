"""Tests of livenames.putting."""

import itertools
import unittest

from livenames.errors import NoLinks, NoTerm, NoUse, TooMany
from livenames.putting import are_links, put, put_catches, put_renamed
from livenames.terms import Term
from livenames.walks import binders_around, free_names, meaning, names_of, shape_of
from tests.checks import NO_NUMBERS, NO_TERMS, Checks, no_numbers_below
from tests.linked import put_slowly
from tests.trees import EMPTY, PLAIN, RICH, X, Y, bound, deep, drawn_terms, greatest_terms, joined, named_trees
from tests.trees import nested_terms, small_terms

A = ("use", "a")
Z = ("use", "z")

# {x||{y||f(x,y,z)}}
HOST = Term(("bind", "x", (), ("bind", "y", (), ("join", "f", (X, Y, Z)))))
# {x||g(x,y,w)}
GUEST = Term(("bind", "x", (), ("join", "g", (X, Y, ("use", "w")))))

NO_DICTS = [value for value in NO_NUMBERS if not isinstance(value, dict)] + [
    [("y", 0), ("w", None)], (("y", 0), ("w", None)), ["y", "w"], {"y", "w"}, "yw", 2,
]


def some_links(host, number, guest, most=4):
    """All links, or some of these, of a guest for a use of a host."""
    places = [None, *binders_around(host, host.uses()[number])]
    free = free_names(guest)
    rows = list(itertools.product(places, repeat=len(free)))
    return [dict(zip(free, row)) for row in rows[::max(1, len(rows) // most)]]


def some_puttings():
    """Tuples of a host, the number of a use of it, a guest and links, always the same ones."""
    found = []
    hosts = small_terms()[::23] + drawn_terms(60, 4)[::2]
    guests = [Term(tree) for size in [1, 2] for tree in named_trees(size)] + [Term(tree) for tree in named_trees(3)[::5]]
    guests += list(nested_terms()[::70]) + list(drawn_terms(60, 4)[::12])
    for place, host in enumerate(hosts):
        for number in range(len(host.uses())):
            for guest in guests[(place + number) % 5::5]:
                found += [(host, number, guest, links) for links in some_links(host, number, guest)]
    return found


class TestLinks(Checks):

    def test_links(self):
        for links in [{"y": 0, "w": None}, {"w": 0, "y": 1}, {"y": None, "w": None}, {"y": 1, "w": 1}]:
            self.assertIs(are_links(HOST, 0, GUEST, links), True, links)
        self.assertIs(are_links(HOST, 0, Term(PLAIN), {}), True)
        self.assertIs(are_links(Term(X), 0, GUEST, {"y": None, "w": None}), True)

    def test_names_that_lack_or_are_too_many(self):
        for links in [{}, {"y": 0}, {"w": 0}, {"y": 0, "w": 0, "x": 0}, {"y": 0, "w": 0, "g": None}, {"y": 0, "x": 0},
                      {"y": 0, "w": 0, None: 0}, {"y": 0, 0: "w"}, {0: 0, 1: 1}, {"y": 0, ("w",): 1}, {b"y": 0, "w": 1}]:
            self.assertIs(are_links(HOST, 0, GUEST, links), False, links)
        self.assertIs(are_links(HOST, 0, Term(PLAIN), {"x": 0}), False)
        self.assertIs(are_links(Term(X), 0, GUEST, {}), False)

    def test_binders_that_the_use_is_not_within(self):
        # x in the ahead term of 0, y within 1 alone, x within 0.
        host = Term(("bind", "x", (X, ("bind", "y", (), Y)), X))
        told = [[are_links(host, number, Term(Z), {"z": link}) for link in [None, 0, 1]] for number in range(3)]
        self.assert_same(told, [[True, False, False], [True, False, True], [True, True, False]])

    def test_what_is_no_link(self):
        for bad in NO_NUMBERS[1:] + ["x", -1, 2, 3, 10 ** 50, -10 ** 50]:
            self.assertIs(are_links(HOST, 0, GUEST, {"y": bad, "w": None}), False, bad)
            self.assertIs(are_links(HOST, 0, GUEST, {"y": 0, "w": bad}), False, bad)
        self.assertIs(are_links(Term(X), 0, Term(Z), {"z": 0}), False)
        self.assertIs(are_links(Term(PLAIN), 0, Term(Z), {"z": False}), False)
        self.assertIs(are_links(HOST, 0, Term(Z), {"z": True}), False)

    def test_what_is_no_dict(self):
        for value in NO_DICTS:
            self.assertIs(are_links(HOST, 0, GUEST, value), False, value)
            self.assertIs(are_links(HOST, 0, Term(PLAIN), value), False, value)

    def test_of_uses_of_all_small_terms(self):
        guest = Term(Z)
        for host in small_terms()[::5]:
            for number, use in enumerate(host.uses()):
                around = binders_around(host, use)
                for link in range(-1, len(host.binders()) + 1):
                    self.assertIs(are_links(host, number, guest, {"z": link}), link in around)


class TestPut(Checks):

    def assert_put(self, wanted, renamed, caught, *arguments):
        told = put(*arguments)
        self.assertIs(type(told), Term)
        self.assertEqual(told.tree(), wanted)
        self.assert_same(put_renamed(*arguments), renamed)
        self.assert_same(put_catches(*arguments), caught)

    def test_a_guest_without_free_names(self):
        self.assert_put(PLAIN, [], [], Term(X), 0, Term(PLAIN), {})
        self.assert_put(("bind", "x", (), PLAIN), [], [], Term(PLAIN), 0, Term(PLAIN), {})
        self.assert_put(EMPTY, [], [], Term(X), 0, Term(EMPTY), {})

    def test_links_to_binders_around_and_to_none(self):
        host = HOST
        self.assert_put(("bind", "x", (), ("bind", "y", (), ("join", "f", (X, Y, X)))), [], [], host, 2, Term(A), {"a": 0})
        self.assert_put(("bind", "x", (), ("bind", "y", (), ("join", "f", (X, Y, A)))), [], [], host, 2, Term(A), {"a": None})
        self.assert_put(("bind", "x", (), ("bind", "y", (), ("join", "f", (X, Y, Y)))), [], [], host, 2, Term(X), {"x": 1})

    def test_a_binder_of_the_host_that_would_catch_a_free_name_of_the_guest(self):
        self.assert_put(("bind", "a", (), X), [0], [(0, 0, "x")], Term(PLAIN), 0, Term(X), {"x": None})
        self.assert_put(("bind", "a", (), ("bind", "y", (), ("join", "f", (X, Y, Z)))), [0], [(0, 0, "x")],
                        HOST, 0, Term(X), {"x": None})

    def test_a_binder_of_the_guest_that_would_catch_a_linked_name(self):
        # Either one of the two might be renamed; by the told naming it is the outer one.
        guest = Term(("bind", "x", (), ("join", "g", (X, A))))
        self.assert_put(
            ("bind", "a", (), ("bind", "y", (), ("join", "f", (A, Y, ("bind", "x", (), ("join", "g", (X, A))))))),
            [0], [(3, 2, 0)], HOST, 2, guest, {"a": 0})

    def test_binders_of_the_guest_keep_their_names_where_nothing_clashes(self):
        self.assert_put(("bind", "x", (), ("bind", "y", (), ("join", "f", (X, Y, PLAIN)))), [], [],
                        HOST, 2, Term(PLAIN), {})
        # x of the guest stands between what is linked to x and x, if it has uses; without it, nothing clashes.
        guest = Term(("bind", "x", (A,), X))
        self.assert_put(("bind", "x", (), ("bind", "y", (), ("join", "f", (X, Y, ("bind", "x", (X,), X))))), [], [],
                        HOST, 2, guest, {"a": 0})

    def test_one_binder_is_renamed_instead_of_two(self):
        # The outer x would be caught by both of the guest's own.
        guest = Term(("join", "g", (("bind", "x", (), A), ("bind", "x", (), A))))
        wanted = ("bind", "a", (), ("join", "g", (("bind", "x", (), A), ("bind", "x", (), A))))
        self.assert_put(wanted, [0], [(0, 1, 0), (1, 2, 0)], Term(PLAIN), 0, guest, {"a": 0})

    def test_new_names_are_neither_free_nor_old(self):
        # a is free, b and x are old names.
        host = Term(("bind", "x", (), ("bind", "b", (), ("join", "f", (X, A)))))
        self.assert_put(("bind", "c", (), ("bind", "b", (), ("join", "f", (X, A)))), [0], [(0, 0, "x")],
                        host, 0, Term(X), {"x": None})
        # The use that is replaced was the only one of a.
        self.assert_put(("bind", "x", (), ("bind", "b", (), ("join", "f", (X, X)))), [], [], host, 1, Term(A), {"a": 0})

    def test_numbers_of_the_outcome(self):
        # Binders of the guest come between those of the host.
        host = Term(("join", "f", (("bind", "x", (), Y), X, ("bind", "x", (), ("bind", "q", (), X)))))
        guest = Term(("bind", "z", (), X))
        self.assert_put(("join", "f", (("bind", "x", (), ("bind", "z", (), X)), X, ("bind", "x", (), ("bind", "q", (), X)))),
                        [], [], host, 0, guest, {"x": 0})
        self.assert_put(("join", "f", (("bind", "a", (), ("bind", "z", (), X)), X, ("bind", "x", (), ("bind", "q", (), X)))),
                        [0], [(0, 0, "x")], host, 0, guest, {"x": None})
        self.assert_put(("join", "f", (("bind", "x", (), Y), X, ("bind", "a", (), ("bind", "q", (), ("bind", "z", (), X))))),
                        [1], [(2, 1, "x")], host, 2, guest, {"x": None})

    def test_a_free_name_of_the_host_and_of_the_guest(self):
        host = Term(("join", "f", (("bind", "x", (), X), X)))
        self.assert_put(("join", "f", (("bind", "a", (), X), X)), [0], [(0, 0, "x")], host, 0, Term(X), {"x": None})
        self.assert_put(("join", "f", (PLAIN, X)), [], [], host, 0, Term(X), {"x": 0})

    def test_all_small_terms(self):
        for host, number, guest, links in some_puttings():
            made = put_slowly(host.tree(), number, guest.tree(), links)
            told = put(host, number, guest, links)
            self.assertEqual(told, made.term())
            self.assert_same(put_renamed(host, number, guest, links), made.renamed())
            self.assert_same(put_catches(host, number, guest, links), made.catches())
            self.assert_same(meaning(told), made.walk.meant)
            self.assert_same(shape_of(told), shape_of(made.own_term))
            self.assert_same([binder for binder, name in enumerate(names_of(told)) if name != made.old[binder]],
                             made.renamed())

    def test_no_fewer_binders_renamed_would_do(self):
        for host, number, guest, links in some_puttings()[::7]:
            made = put_slowly(host.tree(), number, guest.tree(), links)
            if len(made.old) <= 3:
                self.assertEqual(len(put_renamed(host, number, guest, links)), made.fewest_renamed())


class TestLimits(Checks):

    def assert_too_many(self, most, host, guest):
        links = {name: None for name in free_names(guest)}
        for call in [put, put_renamed, put_catches]:
            with self.assertRaises(TooMany) as caught:
                call(host, 0, guest, links)
            self.assert_same(caught.exception.most, most)
        self.assertIs(are_links(host, 0, guest, links), True)

    def assert_just_within(self, host, guest, told):
        made = put(host, 0, guest, {name: None for name in free_names(guest)})
        self.assertEqual((len(made), len(made.binders()), made.depth()), told)

    def test_nodes(self):
        self.assert_just_within(Term(joined(200)), Term(joined(201)), (400, 0, 3))
        self.assert_too_many(400, Term(joined(200)), Term(joined(202)))
        self.assert_too_many(400, Term(joined(400)), Term(EMPTY[:2] + ((EMPTY,),)))
        self.assert_just_within(Term(joined(400)), Term(EMPTY), (400, 0, 2))

    def test_binders(self):
        self.assert_just_within(Term(bound(30)), Term(bound(30)), (61, 60, 61))
        self.assert_too_many(60, Term(bound(30)), Term(bound(31)))
        self.assert_too_many(60, Term(bound(60)), Term(bound(60, EMPTY)))

    def test_nodes_on_a_way(self):
        self.assert_just_within(Term(deep(50)), Term(deep(51)), (100, 0, 100))
        self.assert_too_many(100, Term(deep(50)), Term(deep(52)))
        self.assert_too_many(100, Term(deep(100)), Term(deep(100)))

    def test_which_limit_comes_first(self):
        self.assert_too_many(400, Term(bound(60, joined(300))), Term(bound(40, joined(100))))
        self.assert_too_many(60, Term(bound(60)), Term(bound(45)))

    def test_no_links_come_ahead_of_too_many(self):
        for links in [{}, {"x": 0}, None]:
            for call in [put, put_renamed, put_catches]:
                self.assert_error(NoLinks, links, call, Term(joined(400)), 0, Term(joined(400)), links)

    def test_the_greatest_terms(self):
        for host in greatest_terms():
            for guest in [Term(X), Term(EMPTY)]:
                last = len(host.uses()) - 1
                for number in [0, last // 2, last]:
                    around = binders_around(host, host.uses()[number])
                    for link in [None, *around[:1]]:
                        links = {name: link for name in free_names(guest)}
                        made = put_slowly(host.tree(), number, guest.tree(), links)
                        self.assertEqual(put(host, number, guest, links), made.term())
                        self.assert_same(put_renamed(host, number, guest, links), made.renamed())
                        self.assert_same(put_catches(host, number, guest, links), made.catches())


class TestArguments(Checks):

    def test_no_term(self):
        for value in NO_TERMS:
            for call in [are_links, put, put_renamed, put_catches]:
                for number, links in [(0, {}), (None, None), (7, {})]:
                    self.assert_error(NoTerm, value, call, value, number, GUEST, links)
                    self.assert_error(NoTerm, value, call, HOST, number, value, links)
                    self.assert_error(NoTerm, value, call, value, number, [], links)

    def test_no_use(self):
        for call in [are_links, put, put_renamed, put_catches]:
            for number in no_numbers_below(3):
                for links in [{"y": 0, "w": None}, None, {}]:
                    self.assert_error(NoUse, number, call, HOST, number, GUEST, links)
            for number in no_numbers_below(0) + [0]:
                self.assert_error(NoUse, number, call, Term(EMPTY), number, GUEST, {"y": None, "w": None})

    def test_the_number_of_a_node_is_not_that_of_a_use(self):
        self.assert_error(NoUse, 4, put, HOST, 4, Term(EMPTY), {})
        self.assertEqual(put(HOST, 2, Term(EMPTY), {})[5], EMPTY)

    def test_no_links(self):
        for call in [put, put_renamed, put_catches]:
            for value in NO_DICTS + [{}, {"y": 0}, {"y": 0, "w": 0, "z": 0}, {"y": True, "w": 0}, {"y": 0, "w": 2}]:
                self.assert_error(NoLinks, value, call, HOST, 0, GUEST, value)
            for value in NO_DICTS + [{"x": None}, {None: None}]:
                self.assert_error(NoLinks, value, call, HOST, 0, Term(PLAIN), value)

    def test_by_name(self):
        named = {"other": GUEST, "number": 0, "term": HOST}
        links = {"y": 0, "w": 1}
        self.assertIs(are_links(value=links, **named), True)
        self.assertEqual(put(links=links, **named), put(HOST, 0, GUEST, links))
        self.assertEqual(put_renamed(links=links, **named), put_renamed(HOST, 0, GUEST, links))
        self.assertEqual(put_catches(links=links, **named), put_catches(HOST, 0, GUEST, links))
        self.assert_error(NoTerm, None, put, links=None, number=None, other=None, term=HOST)

    def test_new_lists(self):
        for call in [put_renamed, put_catches]:
            self.assert_new_lists(call, Term(PLAIN), 0, Term(X), {"x": None})

    def test_what_is_handed_in_stays(self):
        links = {"w": 0, "y": None}
        host, guest = Term(RICH), Term(GUEST.tree())
        for call in [put_renamed, put_catches, put]:
            call(host, 0, guest, links)
        self.assertEqual((links, list(links)), ({"w": 0, "y": None}, ["w", "y"]))
        self.assertEqual((host.tree(), guest.tree()), (RICH, GUEST.tree()))

    def test_a_term_put_into_itself(self):
        self.assertEqual(put(HOST, 2, HOST, {"z": None}), put(HOST, 2, Term(HOST.tree()), {"z": None}))
        self.assertEqual(len(put(HOST, 2, HOST, {"z": 0})), 11)


if __name__ == "__main__":
    unittest.main()

"""Tests of the examples of the document; each begins anew."""

import doctest
import unittest

EXAMPLES = [
    """
>>> from livenames.fewest import crowd, fewest_paper, told_naming, width
>>> from livenames.notes import read_term, write_term
>>> from livenames.writing import catches, written
>>> term = read_term("{x||{y||f(x,y,z)}}")
>>> (width(term), told_naming(term), write_term(written(term, told_naming(term))), crowd(term), fewest_paper(term), catches(term, ("a", "a")))
(3, ('a', 'b'), '{a||{b||f(a,b,z)}}', [0, 'z', 1], (('a', 'b'), 1), [(0, 1, 0)])
""",
    """
>>> from livenames.counting import how_many, naming_at, number_of
>>> from livenames.notes import read_term
>>> term = read_term("{x||f(x,{y||f(y,{z||f(x,z)})})}")
>>> (how_many(term, ["a", "b", "c"]), naming_at(term, ["a", "b", "c"], 5), number_of(term, ["a", "b", "c"], ("b", "a", "a")))
(12, ('b', 'a', 'c'), 4)
""",
    """
>>> from livenames.keeping import most_kept, told_kept
>>> from livenames.notes import read_term
>>> from livenames.prices import told_prices
>>> term = read_term("{x||{y||{z||f(x,y,z)}}}")
>>> wishes = ["x", "x", "x"]
>>> (told_prices(term, wishes, [5, 3, 4]), most_kept(term, wishes, [5, 3, 4]), told_kept(term, wishes, [5, 3, 4]))
([1, 0, 4], 5, ('x', 'a', 'b'))
""",
    """
>>> from livenames.inlining import inline, inline_catches, inline_renamed
>>> from livenames.notes import read_term, write_form, write_term
>>> from livenames.numbered import numbered
>>> term = read_term("{x|y|f(x,{y||g(x,y)})}")
>>> (write_term(inline(term, 0)), inline_renamed(term, 0), inline_catches(term, 0), write_form(numbered(term)))
('f(y,{a||g(y,a)})', [0], [(1, 0, 'y')], '{y|f(0,{|g(1,0)})}')
""",
    """
>>> from livenames.leading import is_way, lead
>>> from livenames.notes import read_term
>>> term = read_term("{x||{y||f(x,y)}}")
>>> steps = lead(term, ["a", "b", "c"], ("a", "b"), ("b", "a"))
>>> (len(steps), is_way(term, ["a", "b", "c"], ("a", "b"), ("b", "a"), steps))
(3, True)
""",
]


class TestExamples(unittest.TestCase):

    def test_examples(self):
        for number, text in enumerate(EXAMPLES):
            example = doctest.DocTestParser().get_doctest(text, {}, f"example {number}", None, 0)
            told = doctest.DocTestRunner().run(example)
            self.assertEqual(told.failed, 0)
            self.assertGreater(told.attempted, 3)


if __name__ == "__main__":
    unittest.main()

"""The interface's errors, and that a refusal is a TreeError and a ValueError too."""

import unittest

from shapekin import errors
from shapekin.book import Book
from shapekin.forms import tree_of
from shapekin.rooted import form_of


class ErrorClasses(unittest.TestCase):
    def test_what_each_stands_under(self):
        self.assertEqual(errors.TreeError.__bases__, (ValueError,))
        for refusal in (errors.NoTree, errors.NoForm, errors.NoKind):
            self.assertEqual(refusal.__bases__, (errors.TreeError,))

    def test_they_are_four_different_ones(self):
        names = [refusal.__name__ for refusal in (errors.TreeError, errors.NoTree, errors.NoForm, errors.NoKind)]
        self.assertEqual(names, ["TreeError", "NoTree", "NoForm", "NoKind"])


class Refusals(unittest.TestCase):
    def test_no_tree_is_taken_by_each_of_its_names(self):
        for above in ([], [0], [None, None], [None, 2], [None, -1], [None, 1], [None, 2, 1]):
            for taken in (errors.NoTree, errors.TreeError, ValueError):
                with self.subTest(above=above, taken=taken), self.assertRaises(taken):
                    form_of(above)

    def test_no_form_is_taken_by_each_of_its_names(self):
        for text in ("", "(", ")", "()()", "(()(()))", "( )", "(a)"):
            for taken in (errors.NoForm, errors.TreeError, ValueError):
                with self.subTest(text=text, taken=taken), self.assertRaises(taken):
                    tree_of(text)

    def test_no_kind_is_taken_by_each_of_its_names(self):
        for kind in (-1, 0, 10 ** 20):
            for taken in (errors.NoKind, errors.TreeError, ValueError):
                with self.subTest(kind=kind, taken=taken), self.assertRaises(taken):
                    Book().form(kind)

    def test_no_refusal_is_taken_by_anothers_name(self):
        refusals = [(errors.NoTree, form_of, []), (errors.NoForm, tree_of, ""), (errors.NoKind, Book().form, 0)]
        for error, function, handed in refusals:
            with self.assertRaises(errors.TreeError) as taken:
                function(handed)
            self.assertIs(type(taken.exception), error)

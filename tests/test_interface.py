"""The interface: every name, with its arguments as the document calls them."""

import unittest
from inspect import signature

from shapekin import book, errors, forms, free, mates, rooted

INTERFACE = [
    (rooted.form_of, ["above"]),
    (forms.is_form, ["text"]),
    (forms.tree_of, ["text"]),
    (mates.matched, ["one", "other"]),
    (mates.how_many, ["above"]),
    (mates.alike_knots, ["above"]),
    (mates.way_with, ["above", "knot", "mate"]),
    (free.middles, ["tree"]),
    (free.rooted_at, ["tree", "knot"]),
    (free.free_form, ["tree"]),
    (free.free_matched, ["one", "other"]),
    (free.free_how_many, ["tree"]),
    (free.free_alike_knots, ["tree"]),
    (book.Book, []),
    (book.Book().rooted, ["above"]),
    (book.Book().free, ["tree"]),
    (book.Book().form, ["kind"]),
    (book.answers, ["deeds"]),
]


class Interface(unittest.TestCase):
    def test_the_arguments(self):
        for function, arguments in INTERFACE:
            self.assertEqual(list(signature(function).parameters), arguments, function.__name__)

    def test_the_classes(self):
        for made in (book.Book, errors.TreeError, errors.NoTree, errors.NoForm, errors.NoKind):
            self.assertIsInstance(made, type)

"""Points 1, 14 and 15: Book and answers."""

import unittest
from copy import deepcopy
from itertools import permutations

from shapekin.book import Book, answers
from shapekin.errors import NoKind, NoTree, TreeError
from tests.trees import (
    HUGE, NO_FREE_TREES, NO_TREES, chain, comb, free_renumbered, freed, growing_trees, halved, orders, plain_form_of,
    plain_free_form, refused, renumbered, star, unchanged,
)

NO_KINDS = (-1, -2, HUGE, -HUGE, 10 ** 99, -(10 ** 99))

# Each deed with its answer. Kind 1 is free and has the same text as its form as kind 2, which is rooted.
DAY = [
    (("form", 0), "no kind"),
    (("rooted", [None, 2, 1]), "no tree"),
    (("form", 0), "no kind"),
    (("rooted", [None, 0, 0, 1]), (0, 1)),
    (("form", 0), "((())())"),
    (("form", 1), "no kind"),
    (("free", (3, [(0, 1), (1, 2)])), (1, 1)),
    (("rooted", [2, 3, 3, None]), (0, 2)),
    (("rooted", [None, 0, 0]), (2, 1)),
    (("form", 1), "(()())"),
    (("form", 2), "(()())"),
    (("free", (3, [(0, 1), (1, 0)])), "no tree"),
    (("free", (0, [])), "no tree"),
    (("rooted", []), "no tree"),
    (("rooted", [None, -1]), "no tree"),
    (("form", 3), "no kind"),
    (("form", -1), "no kind"),
    (("form", -3), "no kind"),
    (("form", HUGE), "no kind"),
    (("free", (3, [(2, 0), (1, 2)])), (1, 2)),
    (("rooted", [1, None, 1]), (2, 2)),
    (("free", (2, [(1, 0)])), (3, 1)),
    (("form", 3), "()-()"),
    (("rooted", [None]), (4, 1)),
    (("free", (1, [])), (5, 1)),
    (("free", (HUGE, [(0, 1)])), "no tree"),
    (("rooted", [None]), (4, 2)),
    (("rooted", [3, None, 1, 1]), (0, 3)),
    (("form", 4), "()"),
    (("form", 5), "()"),
    (("form", 6), "no kind"),
    (("free", (1, [])), (5, 2)),
    (("form", 0), "((())())"),
]


def by_hand(book, deed):
    """The deed done by its own method, and its answer or the refusal's class."""
    name, told = deed
    try:
        return {"rooted": book.rooted, "free": book.free, "form": book.form}[name](told)
    except TreeError as refusal:
        return type(refusal)


class Days(unittest.TestCase):
    def told(self, deeds, right):
        answer = unchanged(self, answers, deeds)
        self.assertIs(type(answer), list)
        self.assertEqual(answer, right)
        self.assertEqual([type(each) for each in answer], [type(each) for each in right])

    def test_a_day_without_deeds(self):
        self.told([], [])

    def test_a_day(self):
        self.told([deed for deed, answer in DAY], [answer for deed, answer in DAY])

    def test_each_beginning_of_a_day(self):
        for length in range(len(DAY)):
            self.told([deed for deed, answer in DAY[:length]], [answer for deed, answer in DAY[:length]])

    def test_what_is_refused_changes_nothing(self):
        kept = [(deed, answer) for deed, answer in DAY if type(answer) is not str or answer[0] == "("]
        self.told([deed for deed, answer in kept], [answer for deed, answer in kept])

    def test_twice_over_the_same_deeds(self):
        deeds = [deed for deed, answer in DAY]
        self.assertEqual(answers(deeds), answers(deeds))
        self.assertEqual(answers(deeds + deeds)[:len(DAY)], answers(deeds))

    def test_kinds_are_numbered_as_they_first_come(self):
        shapes = {plain_form_of(shape): shape for shape in growing_trees(5)}
        for forms in (list(shapes), list(shapes)[::-1]):
            deeds = [("rooted", shapes[form]) for form in forms] * 2 + [("form", kind) for kind in range(len(forms))]
            right = [(kind, count) for count in (1, 2) for kind in range(len(forms))]
            self.told(deeds, right + forms)

    def test_each_numbering_is_of_one_kind(self):
        trees = [renumbered([None, 0, 0, 1], new_numbers) for new_numbers in permutations(range(4))]
        self.told([("rooted", tree) for tree in trees], [(0, count) for count in range(1, 25)])
        trees = [free_renumbered(freed(chain(4)), new_numbers) for new_numbers in permutations(range(4))]
        self.told([("free", tree) for tree in trees], [(0, count) for count in range(1, 25)])

    def test_each_tree_that_is_refused(self):
        deeds = [("rooted", above) for above in NO_TREES] + [("free", tree) for tree in NO_FREE_TREES]
        for first in range(0, len(deeds), 50):
            some = deeds[first:first + 50]
            self.told(some, ["no tree"] * len(some))
            self.told([("rooted", [None])] + some + [("rooted", [None])], [(0, 1)] + ["no tree"] * len(some) + [(0, 2)])

    def test_each_kind_that_there_is_not(self):
        for kinds in range(3):
            trees = [("rooted", chain(count + 1)) for count in range(kinds)]
            right = [(count, 1) for count in range(kinds)]
            missing = [("form", kind) for kind in NO_KINDS + (kinds, kinds + 1, -kinds - 1)]
            self.told(trees + missing, right + ["no kind"] * len(missing))

    def test_a_hundred_deeds_with_trees_of_a_hundred_knots(self):
        deeds = []
        right = []
        shapes = (chain(100), star(100), halved(100), comb(100))
        for count in range(1, 13):
            for place, shape in enumerate(shapes):
                numbers = orders(100)[count % len(orders(100))]
                deeds.append(("rooted", renumbered(shape, numbers)))
                deeds.append(("free", free_renumbered(freed(shape), numbers)))
                right.extend([(2 * place, count), (2 * place + 1, count)])
        for place, shape in enumerate(shapes[:2]):
            deeds.extend([("form", 2 * place), ("form", 2 * place + 1)])
            right.extend([plain_form_of(shape), plain_free_form(freed(shape))])
        self.assertEqual(len(deeds), 100)
        self.told(deeds, right)


class Books(unittest.TestCase):
    def test_a_day_by_hand(self):
        book = Book()
        classes = {"no tree": NoTree, "no kind": NoKind}
        for deed, answer in DAY:
            before = deepcopy(deed)
            told = by_hand(book, deed)
            self.assertEqual(told, classes.get(answer, answer), deed)
            self.assertEqual(deed, before)

    def test_a_new_book_is_without_kinds(self):
        for kind in (0, 1) + NO_KINDS:
            self.assertRaises(NoKind, Book().form, kind)

    def test_the_pairs_are_tuples_of_whole_numbers(self):
        book = Book()
        for answer in (book.rooted([None]), book.free((1, []))):
            self.assertIs(type(answer), tuple)
            self.assertEqual([type(each) for each in answer], [int, int])

    def test_what_is_refused_changes_nothing(self):
        book = Book()
        self.assertEqual(book.rooted([None, 0]), (0, 1))
        self.assertEqual(book.free((2, [(0, 1)])), (1, 1))
        for error in (NoTree, TreeError, ValueError):
            for above in NO_TREES:
                refused(self, error, book.rooted, above)
            for tree in NO_FREE_TREES:
                refused(self, error, book.free, tree)
        for error in (NoKind, TreeError, ValueError):
            for kind in NO_KINDS + (2, 3):
                refused(self, error, book.form, kind)
        self.assertEqual(book.rooted([1, None]), (0, 2))
        self.assertEqual(book.free((2, [(1, 0)])), (1, 2))
        self.assertEqual(book.rooted([None]), (2, 1))
        self.assertEqual([book.form(kind) for kind in range(3)], ["(())", "()-()", "()"])
        self.assertRaises(NoKind, book.form, 3)

    def test_asking_a_form_changes_nothing(self):
        book = Book()
        book.rooted([None])
        for _ in range(3):
            self.assertEqual(book.form(0), "()")
        self.assertEqual(book.rooted([None]), (0, 2))

    def test_two_books_side_by_side(self):
        one = Book()
        other = Book()
        self.assertEqual(one.rooted([None]), (0, 1))
        self.assertRaises(NoKind, other.form, 0)
        self.assertEqual(other.free((1, [])), (0, 1))
        self.assertEqual(one.rooted([None]), (0, 2))
        self.assertEqual(other.rooted([None]), (1, 1))
        self.assertEqual(one.rooted([None, 0]), (1, 1))
        self.assertEqual(one.form(1), "(())")
        self.assertEqual(other.form(1), "()")
        self.assertEqual(answers([("rooted", [None, 0]), ("form", 1)]), [(0, 1), "no kind"])
        self.assertEqual(one.rooted([None]), (0, 3))
        self.assertEqual(other.free((1, [])), (0, 2))


class NothingIsKept(unittest.TestCase):
    def test_changing_what_a_book_was_told(self):
        book = Book()
        above = [None, 0, 0]
        lines = [(0, 1), (1, 2), (2, 3)]
        told = [book.rooted(above), book.free((4, lines))]
        above[2] = 1
        lines[2] = (1, 3)
        self.assertEqual(told, [(0, 1), (1, 1)])
        self.assertEqual([book.form(0), book.form(1)], ["(()())", "(())-(())"])
        self.assertEqual(book.rooted([None, 0, 0]), (0, 2))
        self.assertEqual(book.free((4, [(0, 1), (1, 2), (2, 3)])), (1, 2))
        self.assertEqual(book.rooted(above), (2, 1))
        self.assertEqual(book.free((4, lines)), (3, 1))
        above.clear()
        lines.clear()
        self.assertRaises(NoTree, book.rooted, above)
        self.assertRaises(NoTree, book.free, (4, lines))
        self.assertEqual([book.form(2), book.form(3)], ["((()))", "(()()())"])

    def test_changing_the_deeds_or_the_answers_of_a_day(self):
        deeds = [("rooted", [None, 0]), ("free", (2, [(0, 1)])), ("form", 1)]
        right = [(0, 1), (1, 1), "()-()"]
        first = answers(deeds)
        second = answers(deeds)
        self.assertEqual(first, right)
        first.clear()
        self.assertEqual(second, right)
        self.assertEqual(answers(deeds), right)
        deeds[0][1].append(0)
        deeds.append(("form", 0))
        self.assertEqual(second, right)
        self.assertEqual(answers(deeds), right + ["(()())"])

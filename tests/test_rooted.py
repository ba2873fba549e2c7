"""Points 1, 2, 3 and 5 of rooted trees: form_of."""

import unittest
from itertools import permutations, product

from shapekin.errors import NoTree
from shapekin.rooted import form_of
from tests.trees import (
    HUGE, NO_TREES, chain, comb, growing_trees, halved, orders, plain_form_of, plainly_a_tree, renumbered, star,
)


class WhatIsNoTree(unittest.TestCase):
    def refused(self, above):
        before = list(above)
        with self.subTest(above=above):
            with self.assertRaises(NoTree):
                form_of(above)
            self.assertEqual(above, before)

    def test_what_each_function_refuses(self):
        for above in NO_TREES:
            self.refused(above)

    def test_no_knots(self):
        self.refused([])

    def test_no_root(self):
        for above in ([0], [1, 0], [1, 2, 0], [1, 1], [0, 0, 0], [-1], [HUGE]):
            self.refused(above)

    def test_two_roots_or_more(self):
        for above in ([None, None], [None, 0, None], [None, None, 0], [1, None, None, 2], [None] * 100):
            self.refused(above)

    def test_a_number_above_that_is_no_knot(self):
        for tree in ([None, 0], [None, 0, 0], [None, 0, 1], [2, 0, None], chain(100)):
            for place in [place for place, upper in enumerate(tree) if upper is not None]:
                for number in (-1, -2, -len(tree), len(tree), len(tree) + 1, HUGE, -HUGE, 10 ** 99, -(10 ** 99)):
                    self.refused(tree[:place] + [number] + tree[place + 1:])

    def test_a_number_below_nought_that_would_count_from_the_end(self):
        for above in ([-1, None], [None, -2], [None, 0, -2], [-2, None, 0], [None, -4, -3, -2]):
            self.refused(above)

    def test_a_number_in_the_place_of_the_root(self):
        for number in (-1, -2, 3, HUGE):
            self.refused([number, 0, 0])

    def test_a_knot_above_itself(self):
        for above in ([0], [None, 1], [None, 0, 2], [0, None], [None, 1, 1], chain(99) + [99]):
            self.refused(above)

    def test_a_ring_apart_from_the_root(self):
        for above in ([None, 2, 1], [None, 2, 3, 1], [1, 0, None], [None, 0, 3, 2], [None, 2, 1, 1, 3]):
            self.refused(above)
        self.refused([None, 99] + list(range(1, 99)))

    def test_each_short_list(self):
        for count in range(5):
            for choice in product([None] + list(range(-2, count + 1)), repeat=count):
                above = list(choice)
                if plainly_a_tree(above):
                    self.assertEqual(form_of(above), plain_form_of(above), above)
                else:
                    self.refused(above)


class Forms(unittest.TestCase):
    def told(self, above, form):
        before = list(above)
        with self.subTest(above=above):
            self.assertEqual(form_of(above), form)
            self.assertEqual(above, before)

    def test_one_knot(self):
        self.told([None], "()")

    def test_the_documents_example_however_it_is_numbered(self):
        for new_numbers in permutations(range(4)):
            self.told(renumbered([None, 0, 0, 1], new_numbers), "((())())")

    def test_chains(self):
        for count in (2, 3, 4, 50, 99, 100):
            self.told(chain(count), "(" * count + ")" * count)
            self.told(renumbered(chain(count), list(range(count))[::-1]), "(" * count + ")" * count)

    def test_stars(self):
        for count in (2, 3, 4, 50, 99, 100):
            self.told(star(count), "(" + "()" * (count - 1) + ")")

    def test_a_root_over_two_alike_parts(self):
        self.told([None, 0, 0, 1, 2], "((())(()))")
        self.told([None, 0, 0, 1, 1, 2, 2], "((()())(()()))")
        self.told([None, 0, 0, 1, 1, 2, 2, 3, 6], "(((())())((())()))")

    def test_parts_are_put_in_order_at_each_knot(self):
        self.told([None, 0, 0, 2, 0, 4, 5, 0, 7, 7], "(((()))(()())(())())")
        self.told([None, 0, 1, 1, 3, 0, 5, 5, 5], "(((())())(()()()))")

    def test_trees_of_a_hundred_knots(self):
        for tree in (chain(100), star(100), halved(100), comb(100), chain(50) + [0] * 50, star(50) + chain(51)[1:]):
            self.assertEqual(len(tree), 100)
            self.told(tree, plain_form_of(tree))
        self.told(comb(100), "(" * 50 + "())" + "())" * 49)

    def test_somewhat_more_than_a_hundred_knots(self):
        self.told(chain(1500), "(" * 1500 + ")" * 1500)
        self.told(star(1500), "(" + "()" * 1499 + ")")


class NumbersMakeNoDifference(unittest.TestCase):
    def test_each_numbering_of_each_small_tree(self):
        for count in range(1, 6):
            for tree in growing_trees(count):
                forms = {form_of(renumbered(tree, new_numbers)) for new_numbers in permutations(range(count))}
                self.assertEqual(forms, {plain_form_of(tree)}, tree)

    def test_big_trees_numbered_anew(self):
        for tree in (chain(100), star(100), halved(100), comb(100), chain(60) + halved(40)[1:] + [59]):
            for new_numbers in orders(100):
                self.assertEqual(sorted(new_numbers), list(range(100)))
                self.assertEqual(form_of(renumbered(tree, new_numbers)), form_of(tree), new_numbers)

    def test_the_root_is_not_always_nought(self):
        roots = {renumbered(chain(100), new_numbers).index(None) for new_numbers in orders(100)}
        self.assertGreater(len(roots - {0}), 2)

    def test_alike_just_where_the_forms_are_the_same(self):
        for count in range(1, 6):
            trees = growing_trees(count)
            for one in trees:
                alike = [renumbered(one, new_numbers) for new_numbers in permutations(range(count))]
                for other in trees:
                    self.assertEqual(form_of(one) == form_of(other), other in alike, (one, other))

    def test_how_many_forms_there_are(self):
        for count, forms in ((1, 1), (2, 1), (3, 2), (4, 4), (5, 9), (6, 20), (7, 48)):
            self.assertEqual(len({form_of(tree) for tree in growing_trees(count)}), forms)


class NothingIsKept(unittest.TestCase):
    def test_changing_a_list_after_it_was_handed_in(self):
        above = [None, 0, 0, 1]
        told = form_of(above)
        above[3] = 0
        self.assertEqual(told, "((())())")
        self.assertEqual(form_of(above), "(()()())")
        self.assertEqual(form_of([None, 0, 0, 1]), "((())())")
        above.append(4)
        with self.assertRaises(NoTree):
            form_of(above)
        above[4] = 3
        self.assertEqual(form_of(above), "((())()())")

    def test_a_refusal_leaves_nothing_behind(self):
        for above in ([], [None, None], [None, 2, 1], [None, -1]):
            with self.assertRaises(NoTree):
                form_of(above)
            self.assertEqual(form_of([None, 0]), "(())")

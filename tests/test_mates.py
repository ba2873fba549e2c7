"""Points 1, 2 and 5 to 8: matched, how_many, alike_knots and way_with."""

import unittest
from copy import deepcopy
from itertools import permutations
from math import factorial

from shapekin.errors import NoTree, TreeError
from shapekin.mates import alike_knots, how_many, matched, way_with
from tests.trees import (
    NO_TREES, chain, comb, growing_trees, halved, numbered_trees, orders, over, plain_form_of, plain_groups,
    plain_ways, plainly_a_tree, plainly_matches, refused, renumbered, star, unchanged,
)

HUNDREDS = [
    chain(100), star(100), halved(100), comb(100), over(*[chain(3)] * 33), chain(60) + halved(40)[1:] + [59],
    over(star(33), star(33), star(33)), chain(50) + [49] * 50, over(comb(49), comb(50)),
]


class WhatIsNoTree(unittest.TestCase):
    def refused(self, function, *handed):
        for error in (NoTree, TreeError, ValueError):
            refused(self, error, function, *handed)

    def test_none_of_these_is_a_tree(self):
        self.assertFalse([above for above in NO_TREES if plainly_a_tree(above)])

    def test_either_side_of_matched(self):
        for above in NO_TREES:
            for tree in ([None], [None, 0], [None, 0, 0], chain(100)):
                self.refused(matched, above, tree)
                self.refused(matched, tree, above)

    def test_both_sides_of_matched(self):
        for above in NO_TREES:
            self.refused(matched, above, above)
            self.refused(matched, above, [])
            self.refused(matched, [None, None], above)

    def test_how_many(self):
        for above in NO_TREES:
            self.refused(how_many, above)

    def test_alike_knots(self):
        for above in NO_TREES:
            self.refused(alike_knots, above)

    def test_way_with(self):
        for above in NO_TREES:
            self.refused(way_with, above, 0, 0)

    def test_each_number_above_that_is_not_there(self):
        for tree in (chain(4), star(4), [2, 0, None], comb(100)):
            for place in [place for place, upper in enumerate(tree) if upper is not None]:
                for number in (-1, -2, len(tree), 10 ** 20):
                    above = tree[:place] + [number] + tree[place + 1:]
                    for function in (how_many, alike_knots):
                        self.assertRaises(NoTree, function, above)
                    self.assertRaises(NoTree, matched, above, tree)
                    self.assertRaises(NoTree, matched, tree, above)
                    self.assertRaises(NoTree, way_with, above, 0, 0)


class Matched(unittest.TestCase):
    def alike(self, one, other):
        answer = unchanged(self, matched, one, other)
        self.assertIs(type(answer), tuple)
        self.assertEqual(len(answer), 2, (one, other))
        self.assertEqual(answer[0], "alike")
        self.assertIs(type(answer[1]), list)
        self.assertTrue(plainly_matches(one, other, answer[1]), (one, other, answer))

    def unlike(self, one, other):
        told = ("unlike", plain_form_of(one), plain_form_of(other))
        self.assertEqual(unchanged(self, matched, one, other), told)
        self.assertIs(type(matched(one, other)), tuple)

    def told(self, one, other):
        if plain_form_of(one) == plain_form_of(other):
            self.alike(one, other)
        else:
            self.unlike(one, other)

    def test_the_one_list_there_is(self):
        self.assertEqual(matched([None], [None]), ("alike", [0]))
        self.assertEqual(matched([None, 0], [1, None]), ("alike", [1, 0]))
        self.assertEqual(matched([None, 0, 0, 1], [2, 3, 3, None]), ("alike", [3, 2, 1, 0]))
        self.assertEqual(matched([None, 0, 1], [1, 2, None]), ("alike", [2, 1, 0]))

    def test_unlike_the_ones_form_first(self):
        self.assertEqual(matched([None], [None, 0]), ("unlike", "()", "(())"))
        self.assertEqual(matched([None, 0], [None]), ("unlike", "(())", "()"))
        self.assertEqual(matched([None, 0, 0], [1, 2, None]), ("unlike", "(()())", "((()))"))
        self.assertEqual(matched([1, 2, None], [None, 0, 0]), ("unlike", "((()))", "(()())"))

    def test_each_two_small_trees(self):
        for count in range(1, 5):
            for one in numbered_trees(count):
                for other in numbered_trees(count) + growing_trees(count + 1):
                    some = any(plainly_matches(one, other, mates) for mates in permutations(range(count)))
                    self.alike(one, other) if some else self.unlike(one, other)

    def test_each_numbering_of_each_tree_of_five_knots(self):
        for tree in growing_trees(5):
            for new_numbers in permutations(range(5)):
                self.alike(tree, renumbered(tree, new_numbers))
                self.alike(renumbered(tree, new_numbers), tree)

    def test_each_two_trees_of_six_knots(self):
        for one in growing_trees(6):
            for other in growing_trees(6):
                self.told(one, other)

    def test_trees_of_a_hundred_knots_numbered_anew(self):
        for tree in HUNDREDS:
            self.assertEqual(len(tree), 100)
            for new_numbers in orders(100):
                self.alike(tree, renumbered(tree, new_numbers))
                self.alike(renumbered(tree, new_numbers), renumbered(tree, orders(100)[3]))

    def test_one_knot_moved_elsewhere(self):
        for tree in (halved(9), comb(8), over(chain(3), chain(3), star(3)), over(star(4), star(4))):
            for knot in range(len(tree)):
                for upper in range(len(tree)):
                    moved = tree[:knot] + [upper] + tree[knot + 1:]
                    if plainly_a_tree(moved):
                        self.told(tree, moved)
                        self.told(renumbered(moved, orders(len(tree))[1]), tree)

    def test_one_knot_of_a_hundred_moved_elsewhere(self):
        for tree in HUNDREDS:
            for upper in (0, 1, 2, 49, 50, 98):
                self.told(renumbered(tree, orders(100)[1]), tree[:99] + [upper])

    def test_one_knot_more(self):
        for tree in HUNDREDS:
            for upper in (0, 1, 50, 99):
                more = tree + [upper]
                self.unlike(tree, more)
                self.unlike(more, tree)
                self.alike(more, renumbered(more, orders(101)[1]))
        self.told(chain(99) + [98], chain(100))
        self.told(chain(99) + [97], chain(100))

    def test_unlike_only_deep_within(self):
        for depth in (1, 10, 94):
            one = chain(depth) + [depth - 1, depth, depth, depth + 1]
            other = chain(depth) + [depth - 1, depth, depth + 1, depth + 2]
            self.unlike(one, other)
            self.unlike(other, one)

    def test_the_same_forms_at_other_places(self):
        # Both have the same knots by depth and by how many lie straight under each.
        one = over(over(star(3), [None]), over(chain(2), chain(2)))
        other = over(over(star(3), chain(2)), over(chain(2), [None]))
        self.unlike(one, other)


class WaysOfSmallTrees(unittest.TestCase):
    def test_each_tree_of_up_to_five_knots(self):
        for count in range(1, 6):
            for tree in numbered_trees(count):
                self.all_told(tree, plain_ways(tree))

    def test_each_growing_tree_of_six_knots(self):
        for tree in growing_trees(6):
            self.all_told(tree, plain_ways(tree))

    def all_told(self, tree, ways):
        self.assertEqual(unchanged(self, how_many, tree), len(ways), tree)
        self.assertEqual(unchanged(self, alike_knots, tree), plain_groups(len(tree), ways), tree)
        pairs = {(knot, mate) for way in ways for knot, mate in enumerate(way)}
        for knot in range(len(tree)):
            for mate in range(len(tree)):
                way = unchanged(self, way_with, tree, knot, mate)
                if (knot, mate) in pairs:
                    self.assertIn(way, ways, (tree, knot, mate))
                    self.assertEqual(way[knot], mate, (tree, knot, mate))
                else:
                    self.assertIsNone(way, (tree, knot, mate))


class WaysOfGreaterTrees(unittest.TestCase):
    def told(self, tree, ways, groups):
        self.assertEqual(unchanged(self, how_many, tree), ways)
        self.assertIs(type(how_many(tree)), int)
        answer = unchanged(self, alike_knots, tree)
        self.assertEqual(answer, groups)
        self.assertEqual({type(group) for group in answer} | {type(answer)}, {list})
        for new_numbers in orders(len(tree)):
            anew = renumbered(tree, new_numbers)
            self.assertEqual(how_many(anew), ways)
            self.assertEqual(alike_knots(anew), self.renamed(groups, new_numbers))

    def renamed(self, groups, new_numbers):
        return sorted(sorted(new_numbers[knot] for knot in group) for group in groups)

    def test_one_knot(self):
        self.told([None], 1, [[0]])
        self.assertEqual(way_with([None], 0, 0), [0])

    def test_chains(self):
        for count in (2, 12, 99, 100):
            self.told(chain(count), 1, [[knot] for knot in range(count)])

    def test_stars(self):
        for count in (2, 12, 99, 100):
            self.told(star(count), factorial(count - 1), [[0], list(range(1, count))])

    def test_a_root_over_two_alike_parts(self):
        self.told(over(chain(49), chain(49)), 2, [[0]] + [[knot, knot + 49] for knot in range(1, 50)])
        self.told(over(star(40), star(40)), 2 * factorial(39) ** 2, [[0], [1, 41], [*range(2, 41), *range(42, 81)]])
        self.told([None, 0, 0, 1, 2, 2, 1], 8, [[0], [1, 2], [3, 4, 5, 6]])

    def test_a_root_over_two_unlike_parts(self):
        self.told(over(chain(2), star(3)), 2, [[0], [1], [2], [3], [4, 5]])
        self.told(over(chain(3), chain(2)), 1, [[0], [1], [2], [3], [4], [5]])

    def test_the_same_form_under_knots_that_are_not_alike(self):
        # Knots 2, 4 and 5 all have the form "()", but lie under knots of other forms.
        self.told([None, 0, 1, 0, 3, 3, 0], 2, [[0], [1], [2], [3], [4, 5], [6]])
        # Knots 1 and 2 are alike to none, so neither are the alike parts under them.
        self.told(over(star(3), over([None], [None], chain(2))), 4, [[0], [1], [2, 3], [4], [5, 6], [7], [8]])

    def test_the_same_part_at_two_depths(self):
        self.told(over(chain(2), over(chain(2), chain(2))), 2, [[0], [1], [2], [3], [4, 6], [5, 7]])

    def test_knots_within_a_group_rise_and_groups_stand_by_their_first(self):
        self.assertEqual(alike_knots([4, 3, 4, None, 3, 1]), [[0, 2], [1], [3], [4], [5]])
        self.assertEqual(alike_knots([5, 4, 5, 4, None, 4]), [[0, 2], [1, 3], [4], [5]])
        self.assertEqual(alike_knots([6, 6, 5, 5, 5, 6, None]), [[0, 1], [2, 3, 4], [5], [6]])

    def test_trees_of_a_hundred_knots(self):
        chains = [[0]] + [list(range(depth, 100, 3)) for depth in (1, 2, 3)]
        self.told(over(*[chain(3)] * 33), factorial(33), chains)
        stars = [[0], [1, 34, 67], [knot for knot in range(2, 100) if knot not in (34, 67)]]
        self.told(over(*[star(33)] * 3), 6 * factorial(32) ** 3, stars)
        self.told(chain(50) + [49] * 50, factorial(50), [[knot] for knot in range(50)] + [list(range(50, 100))])
        whole = [list(range(2 ** depth - 1, 2 ** (depth + 1) - 1)) for depth in range(6)]
        self.told(halved(63), 2 ** 31, whole)

    def test_way_with_for_trees_of_a_hundred_knots(self):
        for tree in HUNDREDS:
            tree = renumbered(tree, orders(100)[-1])
            groups = alike_knots(tree)
            for group in groups:
                for knot, mate in ((group[0], group[-1]), (group[-1], group[0]), (group[len(group) // 2], group[0])):
                    way = unchanged(self, way_with, tree, knot, mate)
                    self.assertIs(type(way), list)
                    self.assertTrue(plainly_matches(tree, tree, way), (tree, knot, mate))
                    self.assertEqual(way[knot], mate)
            for one, other in zip(groups, groups[1:]):
                self.assertIsNone(way_with(tree, one[0], other[-1]))
                self.assertIsNone(way_with(tree, other[0], one[-1]))

    def test_somewhat_more_than_a_hundred_knots(self):
        self.assertEqual(how_many(star(300)), factorial(299))
        self.assertEqual(alike_knots(chain(300)), [[knot] for knot in range(300)])
        self.assertEqual(matched(chain(1500), chain(1500)), ("alike", list(range(1500))))
        self.assertEqual(way_with(chain(1500), 1499, 1499), list(range(1500)))
        self.assertIsNone(way_with(chain(1500), 1499, 1498))


class NothingIsKept(unittest.TestCase):
    def test_changing_a_list_after_it_was_handed_in(self):
        above = [None, 0, 0, 1]
        other = [2, 3, 3, None]
        told = (matched(above, other), how_many(above), alike_knots(above), way_with(above, 3, 3))
        before = deepcopy(told)
        above[3] = 0
        other.append(3)
        self.assertEqual(told, before)
        self.assertEqual(matched(above, other), ("unlike", "(()()())", "((())()())"))
        self.assertEqual(how_many(above), 6)
        self.assertEqual(alike_knots(above), [[0], [1, 2, 3]])
        self.assertEqual(way_with(above, 1, 3)[1], 3)
        self.assertEqual(matched([None, 0, 0, 1], [2, 3, 3, None]), ("alike", [3, 2, 1, 0]))

    def test_changing_an_answer_after_it_was_told(self):
        above = [None, 0, 0, 1, 2]
        first = matched(above, above)
        right = deepcopy(first)
        first[1][0] = 9
        first[1].clear()
        self.assertEqual(matched(above, above), right)
        groups = alike_knots(above)
        groups[1].append(7)
        groups.clear()
        self.assertEqual(alike_knots(above), [[0], [1, 2], [3, 4]])
        way = way_with(above, 3, 4)
        way.clear()
        self.assertEqual(way_with(above, 3, 4), [0, 2, 1, 4, 3])
        self.assertEqual(how_many(above), 2)
        self.assertEqual(above, [None, 0, 0, 1, 2])

    def test_an_answer_is_no_list_that_was_handed_in(self):
        for above in ([None], [None, 0, 0]):
            self.assertIsNot(matched(above, above)[1], above)
            self.assertIsNot(way_with(above, 0, 0), above)

    def test_a_later_answer_changes_no_earlier_one(self):
        told = (matched([None, 0], [1, None]), alike_knots([None, 0, 0]), way_with([None, 0, 0], 1, 2))
        before = deepcopy(told)
        matched([None, 0, 0], [None, 0, 0])
        alike_knots([None, 0])
        way_with([None, 0, 0], 1, 1)
        self.assertRaises(NoTree, matched, [None, 0], [1, 0])
        self.assertEqual(told, before)

"""Points 1 and 9 to 13: free trees."""

import unittest
from copy import deepcopy
from itertools import permutations, product
from math import factorial

from shapekin.errors import NoTree, TreeError
from shapekin.free import free_alike_knots, free_form, free_how_many, free_matched, middles, rooted_at
from shapekin.mates import how_many, matched
from tests.trees import (
    NO_FREE_TREES, chain, comb, free_renumbered, freed, growing_trees, halved, joined, numbered_free_trees, orders,
    over, plain_free_form, plain_free_ways, plain_groups, plain_middles, plain_rooted_at, plainly_a_free_tree,
    plainly_free_matches, refused, star, unchanged,
)

HUNDREDS = [
    freed(chain(100)), freed(star(100)), freed(halved(100)), freed(comb(100)), freed(over(*[chain(3)] * 33)),
    joined(star(50), star(50)), joined(comb(50), comb(50)), joined(over(chain(4), star(45)), over(chain(4), chain(45))),
    freed(over(star(33), star(33), star(33))), joined(chain(49), chain(51)), joined(halved(50), halved(50)),
]

DOZENS = [
    freed(chain(12)), freed(chain(11)), freed(star(12)), freed(halved(12)), freed(halved(7)), freed(comb(12)),
    freed(comb(11)), joined(star(6), star(6)), joined(star(5), star(6)), joined(chain(6), chain(6)),
    joined(over(chain(2), [None]), over(chain(2), [None])), joined(over(chain(2), chain(2)), over(chain(2), chain(3))),
    freed(over(chain(2), chain(2), chain(2), star(3))), freed(over(star(3), star(3), star(3))),
]


class WhatIsNoTree(unittest.TestCase):
    def refused(self, function, *handed):
        for error in (NoTree, TreeError, ValueError):
            refused(self, error, function, *handed)

    def refused_by_each(self, tree):
        for function in (middles, free_form, free_how_many, free_alike_knots):
            self.refused(function, tree)
        self.refused(rooted_at, tree, 0)
        for good in ((1, []), (2, [(1, 0)]), (3, [(0, 1), (1, 2)])):
            self.refused(free_matched, tree, good)
            self.refused(free_matched, good, tree)

    def test_what_each_function_refuses(self):
        for tree in NO_FREE_TREES:
            self.refused_by_each(tree)

    def test_both_sides_of_free_matched(self):
        for tree in NO_FREE_TREES:
            self.refused(free_matched, tree, tree)
            self.refused(free_matched, tree, (0, []))
            self.refused(free_matched, (2, [(0, 0)]), tree)

    def test_a_hundred_knots_against_no_tree(self):
        for tree in NO_FREE_TREES[::3]:
            self.refused(free_matched, tree, HUNDREDS[0])
            self.refused(free_matched, HUNDREDS[0], tree)

    def test_each_line_spoilt(self):
        for count, lines in (freed(chain(4)), freed(star(5)), freed(halved(7)), freed(comb(100))):
            for place in range(0, len(lines), 1 + len(lines) // 10):
                before, line, after = lines[:place], lines[place], lines[place + 1:]
                self.refused_by_each((count, before + after))
                self.refused_by_each((count, lines + [line]))
                self.refused_by_each((count, lines + [line[::-1]]))
                self.refused_by_each((count, before + [(line[0], line[0])] + after))
                self.refused_by_each((count, before + [lines[place - 1][::-1]] + after))
                for number in (-1, -2, count, 10 ** 20):
                    self.refused_by_each((count, before + [(line[0], number)] + after))
                    self.refused_by_each((count, before + [(number, line[1])] + after))

    def test_each_wrong_count(self):
        for count, lines in (freed([None]), freed(chain(2)), freed(star(5)), freed(comb(100))):
            for wrong in (count - 1, count + 1, 0, -1, -count, 2 * count, 10 ** 20, -(10 ** 20)):
                self.refused_by_each((wrong, lines))

    def test_each_short_free_tree(self):
        for count in range(-1, 4):
            pairs = list(product(range(-2, 4), repeat=2))
            for length in range(3):
                for lines in product(pairs, repeat=length):
                    tree = (count, list(lines))
                    if plainly_a_free_tree(tree):
                        self.assertEqual(free_form(tree), plain_free_form(tree), tree)
                    else:
                        for function in (middles, free_form, free_how_many, free_alike_knots):
                            self.assertRaises(NoTree, function, tree)
                        self.assertRaises(NoTree, rooted_at, tree, 0)

    def test_each_three_lines_of_four_knots(self):
        pairs = list(product(range(4), repeat=2))
        for lines in product(pairs, repeat=3):
            tree = (4, list(lines))
            if plainly_a_free_tree(tree):
                self.assertEqual(free_form(tree), plain_free_form(tree), tree)
            else:
                self.assertRaises(NoTree, free_form, tree)


class OrderOfLines(unittest.TestCase):
    def all_told(self, tree):
        told = [middles(tree), free_form(tree), free_how_many(tree), free_alike_knots(tree)]
        return told + [rooted_at(tree, knot) for knot in range(tree[0])]

    def test_neither_the_order_of_lines_nor_of_pairs_makes_a_difference(self):
        for shape in (chain(4), star(4), over(chain(2), [None]), halved(5)):
            count, lines = freed(shape)
            told = self.all_told((count, lines))
            for order in permutations(lines):
                for turned in product((1, -1), repeat=len(lines)):
                    tree = (count, [line[::turn] for line, turn in zip(order, turned)])
                    self.assertEqual(self.all_told(tree), told, tree)
                    for answer in (free_matched(tree, (count, lines)), free_matched((count, lines), tree)):
                        self.assertEqual(answer[0], "alike")

    def test_a_hundred_knots(self):
        for count, lines in HUNDREDS[:8:3]:
            told = self.all_told((count, lines))
            turned = [line[::-1] if place % 3 else line for place, line in enumerate(lines)]
            self.assertEqual(self.all_told((count, lines[::-1])), told)
            self.assertEqual(self.all_told((count, turned)), told)
            self.assertEqual(self.all_told((count, turned[50:] + turned[:50])), told)


class Middles(unittest.TestCase):
    def told(self, tree, right):
        answer = unchanged(self, middles, tree)
        self.assertIs(type(answer), list)
        self.assertEqual(answer, right, tree)

    def test_rows(self):
        self.told((1, []), [0])
        self.told((2, [(1, 0)]), [0, 1])
        self.told((3, [(2, 0), (1, 2)]), [2])
        self.told((4, [(3, 0), (1, 2), (0, 2)]), [0, 2])
        self.told((4, [(0, 3), (3, 2), (2, 1)]), [2, 3])
        self.told(freed(chain(99)), [49])
        self.told(freed(chain(100)), [49, 50])

    def test_two_middles_rise(self):
        for new_numbers in permutations(range(4)):
            tree = free_renumbered(freed(chain(4)), new_numbers)
            self.told(tree, sorted(new_numbers[1:3]))

    def test_stars(self):
        for count in (3, 4, 50, 100):
            self.told(freed(star(count)), [0])
            self.told(free_renumbered(freed(star(count)), list(range(count))[::-1]), [count - 1])

    def test_by_farness_not_by_how_many_knots_lie_on_each_side(self):
        self.told(freed(chain(5) + [0] * 20), [1, 2])
        self.told(freed(chain(6) + [0] * 50), [2])
        self.told(freed(chain(50) + [49] * 50), [25])

    def test_each_small_tree(self):
        for count in range(1, 6):
            for tree in numbered_free_trees(count):
                self.told(tree, plain_middles(tree))
        for shape in growing_trees(7):
            self.told(freed(shape), plain_middles(freed(shape)))

    def test_trees_of_a_hundred_knots(self):
        for tree in HUNDREDS:
            self.assertEqual(tree[0], 100)
            self.told(tree, plain_middles(tree))
            for new_numbers in orders(100):
                right = sorted(new_numbers[knot] for knot in middles(tree))
                self.told(free_renumbered(tree, new_numbers), right)


class RootedAt(unittest.TestCase):
    def told(self, tree, knot, right):
        answer = unchanged(self, rooted_at, tree, knot)
        self.assertIs(type(answer), list)
        self.assertEqual(answer, right, (tree, knot))

    def test_some(self):
        self.told((1, []), 0, [None])
        self.told((2, [(0, 1)]), 0, [None, 0])
        self.told((2, [(0, 1)]), 1, [1, None])
        self.told((4, [(0, 1), (2, 1), (2, 3)]), 0, [None, 0, 1, 2])
        self.told((4, [(0, 1), (2, 1), (2, 3)]), 2, [1, 2, None, 2])
        self.told(freed(chain(100)), 99, list(range(1, 100)) + [None])

    def test_each_knot_of_each_small_tree(self):
        for count in range(1, 6):
            for tree in numbered_free_trees(count):
                for knot in range(count):
                    self.told(tree, knot, plain_rooted_at(tree, knot))

    def test_each_knot_of_greater_trees(self):
        for tree in DOZENS + [HUNDREDS[3], free_renumbered(HUNDREDS[2], orders(100)[4])]:
            for knot in range(tree[0]):
                self.told(tree, knot, plain_rooted_at(tree, knot))

    def test_with_its_root_it_is_the_rooted_tree_again(self):
        for shape in growing_trees(6):
            self.told(freed(shape), 0, shape)


class Forms(unittest.TestCase):
    def told(self, tree, form):
        self.assertEqual(unchanged(self, free_form, tree), form, tree)

    def test_the_documents_own(self):
        self.told((1, []), "()")
        self.told((2, [(0, 1)]), "()-()")
        for new_numbers in permutations(range(3)):
            self.told(free_renumbered(freed(chain(3)), new_numbers), "(()())")

    def test_rows(self):
        self.told(freed(chain(4)), "(())-(())")
        self.told(freed(chain(5)), "((())(()))")
        self.told(freed(chain(100)), "(" * 50 + ")" * 50 + "-" + "(" * 50 + ")" * 50)
        self.told(freed(chain(99)), "(" + 2 * ("(" * 49 + ")" * 49) + ")")

    def test_two_parts_in_order(self):
        two = joined(over([None], [None]), over([None]))
        self.assertEqual(two[0], 5)
        for new_numbers in permutations(range(5)):
            self.told(free_renumbered(two, new_numbers), "(()())-(())")

    def test_each_small_tree(self):
        for count in range(1, 6):
            for tree in numbered_free_trees(count):
                self.told(tree, plain_free_form(tree))
        for shape in growing_trees(7):
            self.told(freed(shape), plain_free_form(freed(shape)))

    def test_how_many_forms_there_are(self):
        for count, forms in ((1, 1), (2, 1), (3, 1), (4, 2), (5, 3), (6, 6), (7, 11)):
            self.assertEqual(len({free_form(freed(shape)) for shape in growing_trees(count)}), forms)

    def test_trees_of_a_hundred_knots_numbered_anew(self):
        for tree in HUNDREDS:
            form = plain_free_form(tree)
            for new_numbers in orders(100):
                self.told(free_renumbered(tree, new_numbers), form)


class Matched(unittest.TestCase):
    def alike(self, one, other):
        answer = unchanged(self, free_matched, one, other)
        self.assertIs(type(answer), tuple)
        self.assertEqual(len(answer), 2, (one, other))
        self.assertEqual(answer[0], "alike")
        self.assertIs(type(answer[1]), list)
        self.assertTrue(plainly_free_matches(one, other, answer[1]), (one, other, answer))

    def unlike(self, one, other):
        answer = unchanged(self, free_matched, one, other)
        self.assertIs(type(answer), tuple)
        self.assertEqual(answer, ("unlike", plain_free_form(one), plain_free_form(other)))

    def told(self, one, other):
        if plain_free_form(one) == plain_free_form(other):
            self.alike(one, other)
        else:
            self.unlike(one, other)

    def test_some(self):
        self.assertEqual(free_matched((1, []), (1, [])), ("alike", [0]))
        self.assertEqual(free_matched((1, []), (2, [(0, 1)])), ("unlike", "()", "()-()"))
        self.assertEqual(free_matched((2, [(0, 1)]), (1, [])), ("unlike", "()-()", "()"))
        self.assertEqual(free_matched(freed(chain(4)), freed(star(4))), ("unlike", "(())-(())", "(()()())"))
        self.assertEqual(free_matched(freed(star(4)), freed(chain(4))), ("unlike", "(()()())", "(())-(())"))

    def test_each_two_small_trees(self):
        for count in range(1, 5):
            for one in numbered_free_trees(count):
                for other in numbered_free_trees(count) + numbered_free_trees(count + 1)[::7]:
                    some = any(plainly_free_matches(one, other, mates) for mates in permutations(range(count)))
                    self.alike(one, other) if some else self.unlike(one, other)

    def test_each_two_trees_of_five_knots(self):
        for one in [freed(shape) for shape in growing_trees(5)]:
            for other in numbered_free_trees(5):
                some = any(plainly_free_matches(one, other, mates) for mates in permutations(range(5)))
                self.alike(one, other) if some else self.unlike(one, other)

    def test_shapes_of_six_knots(self):
        trees = [freed(shape) for shape in growing_trees(6)]
        for one in trees[::5]:
            for other in trees:
                self.told(one, other)

    def test_unlike_parts_whose_middles_stand_in_either_order(self):
        two = joined(over(chain(2), [None]), over(chain(2), [None], [None]))
        for new_numbers in orders(two[0]):
            self.alike(two, free_renumbered(two, new_numbers))
            self.alike(free_renumbered(two, new_numbers), two)

    def test_trees_of_a_hundred_knots_numbered_anew(self):
        for tree in HUNDREDS:
            for new_numbers in orders(100):
                self.alike(tree, free_renumbered(tree, new_numbers))
                self.alike(free_renumbered(tree, new_numbers), free_renumbered(tree, orders(100)[3]))

    def test_one_line_moved_elsewhere(self):
        for count, lines in DOZENS[3:12:2]:
            for place in range(count - 1):
                for knot in range(count):
                    moved = (count, lines[:place] + [(lines[place][0], knot)] + lines[place + 1:])
                    if plainly_a_free_tree(moved):
                        self.told((count, lines), moved)
                        self.told(free_renumbered(moved, orders(count)[1]), (count, lines))

    def test_one_line_of_a_hundred_knots_moved_elsewhere(self):
        for count, lines in HUNDREDS:
            for knot in (0, 1, 49, 98):
                self.told(free_renumbered((count, lines), orders(100)[1]), (count, lines[:98] + [(99, knot)]))

    def test_one_knot_more(self):
        for count, lines in HUNDREDS:
            for knot in (0, 1, 50, 99):
                more = (count + 1, lines + [(knot, count)])
                self.unlike((count, lines), more)
                self.unlike(more, (count, lines))
                self.alike(more, free_renumbered(more, orders(count + 1)[1]))

    def test_the_same_parts_joined_elsewhere(self):
        self.alike(joined(star(4), star(4)), freed(over(star(4), [None], [None], [None])))
        self.unlike(joined(star(4), star(4)), joined(star(5), star(3)))
        self.unlike(joined(chain(3), star(3)), joined(chain(3), chain(3)))


class WaysOfSmallTrees(unittest.TestCase):
    def all_told(self, tree):
        ways = plain_free_ways(tree)
        self.assertEqual(unchanged(self, free_how_many, tree), len(ways), tree)
        self.assertEqual(unchanged(self, free_alike_knots, tree), plain_groups(tree[0], ways), tree)
        return ways

    def test_each_tree_of_up_to_five_knots(self):
        for count in range(1, 6):
            for tree in numbered_free_trees(count):
                self.all_told(tree)

    def test_each_shape_of_six_knots(self):
        for shape in growing_trees(6):
            self.all_told(freed(shape))

    def test_two_alike_parts_joined_by_a_line(self):
        for part in ([None], chain(2), star(3), chain(3), [1, None, 1]):
            ways = self.all_told(joined(part, part))
            self.assertEqual(len(ways) % 2, 0)

    def test_a_way_that_brings_a_knot_to_a_mate(self):
        for count in range(1, 6):
            for tree in numbered_free_trees(count):
                ways = plain_free_ways(tree)
                for knot, mate in product(range(count), repeat=2):
                    answer = matched(rooted_at(tree, knot), rooted_at(tree, mate))
                    some = [way for way in ways if way[knot] == mate]
                    self.assertEqual(answer[0] == "alike", some != [], (tree, knot, mate))
                    if some:
                        self.assertIn(answer[1], some)


class WaysOfGreaterTrees(unittest.TestCase):
    def told(self, tree, ways, groups):
        self.assertEqual(unchanged(self, free_how_many, tree), ways)
        self.assertIs(type(free_how_many(tree)), int)
        answer = unchanged(self, free_alike_knots, tree)
        self.assertEqual(answer, groups)
        self.assertEqual({type(group) for group in answer} | {type(answer)}, {list})
        for new_numbers in orders(tree[0]):
            anew = free_renumbered(tree, new_numbers)
            self.assertEqual(free_how_many(anew), ways)
            renamed = sorted(sorted(new_numbers[knot] for knot in group) for group in groups)
            self.assertEqual(free_alike_knots(anew), renamed)

    def test_one_knot_and_two(self):
        self.told((1, []), 1, [[0]])
        self.told((2, [(1, 0)]), 2, [[0, 1]])

    def test_rows(self):
        self.told(freed(chain(100)), 2, [[knot, 99 - knot] for knot in range(50)])
        self.told(freed(chain(99)), 2, [[knot, 98 - knot] for knot in range(49)] + [[49]])

    def test_stars(self):
        for count in (3, 12, 100):
            self.told(freed(star(count)), factorial(count - 1), [[0], list(range(1, count))])

    def test_two_alike_parts_joined_by_a_line(self):
        leaves = [*range(1, 50), *range(51, 100)]
        self.told(joined(star(50), star(50)), 2 * factorial(49) ** 2, [[0, 50], leaves])
        self.told(joined(halved(7), halved(7)), 2 * 8 * 8, [[0, 7], [1, 2, 8, 9], [3, 4, 5, 6, 10, 11, 12, 13]])

    def test_two_unlike_parts_joined_by_a_line(self):
        parts = [[0], list(range(1, 50)), [50], list(range(51, 99))]
        self.told(joined(star(50), star(49)), factorial(49) * factorial(48), parts)

    def test_alike_parts_round_a_middle(self):
        self.told(freed(over(*[chain(3)] * 33)), factorial(33), [[0]] + [list(range(at, 100, 3)) for at in (1, 2, 3)])
        self.told(freed(over(chain(2), chain(2), [None])), 2, [[0], [1, 3], [2, 4], [5]])
        self.told(freed([None, 0, 0, 1, 2, 2, 1]), 8, [[0], [1, 2], [3, 4, 5, 6]])

    def test_alike_only_with_no_root(self):
        # With knot nought as the root no two are alike.
        self.told(freed(chain(5)), 2, [[0, 4], [1, 3], [2]])

    def test_a_tree_with_no_way_but_one(self):
        self.told(freed(over(chain(1), chain(2), chain(3))), 1, [[knot] for knot in range(7)])

    def test_knots_within_a_group_rise_and_groups_stand_by_their_first(self):
        self.told((5, [(4, 2), (2, 0), (0, 3), (3, 1)]), 2, [[0], [1, 4], [2, 3]])
        self.told((6, [(5, 4), (5, 1), (5, 3), (3, 0), (3, 2)]), 8, [[0, 1, 2, 4], [3, 5]])

    def test_somewhat_more_than_a_hundred_knots(self):
        self.told(freed(chain(151)), 2, [[knot, 150 - knot] for knot in range(75)] + [[75]])
        tree = freed(chain(1201))
        self.assertEqual(middles(tree), [600])
        self.assertEqual(free_form(tree), "(" + 2 * ("(" * 600 + ")" * 600) + ")")
        self.assertEqual(rooted_at(tree, 0), chain(1201))


class WaysByARoot(unittest.TestCase):
    """Point 13 for each knot."""

    def told(self, tree):
        ways = free_how_many(tree)
        for group in free_alike_knots(tree):
            for knot in group:
                self.assertEqual(how_many(rooted_at(tree, knot)) * len(group), ways, (tree, knot))

    def test_each_tree_of_up_to_five_knots(self):
        for count in range(1, 6):
            for tree in numbered_free_trees(count):
                self.told(tree)

    def test_each_shape_of_up_to_seven_knots(self):
        for count in (6, 7):
            for shape in growing_trees(count):
                self.told(freed(shape))

    def test_trees_of_up_to_a_dozen_knots(self):
        for tree in DOZENS:
            self.assertLessEqual(tree[0], 12)
            for new_numbers in orders(tree[0]):
                self.told(free_renumbered(tree, new_numbers))

    def test_trees_of_a_hundred_knots(self):
        for tree in HUNDREDS:
            self.told(tree)


class NothingIsKept(unittest.TestCase):
    def test_changing_lines_after_they_were_handed_in(self):
        lines = [(0, 1), (1, 2), (2, 3)]
        other = [(3, 2), (2, 1), (1, 0)]
        told = [
            middles((4, lines)), rooted_at((4, lines), 0), free_form((4, lines)),
            free_matched((4, lines), (4, other)), free_how_many((4, lines)), free_alike_knots((4, lines)),
        ]
        before = deepcopy(told)
        lines[2] = (1, 3)
        other.append((3, 4))
        self.assertEqual(told, before)
        self.assertEqual(middles((4, lines)), [1])
        self.assertEqual(rooted_at((4, lines), 0), [None, 0, 1, 1])
        self.assertEqual(free_matched((4, lines), (5, other)), ("unlike", "(()()())", "((())(()))"))
        self.assertRaises(NoTree, free_matched, (4, lines), (4, other))
        self.assertEqual(free_how_many((4, lines)), 6)
        self.assertEqual(free_alike_knots((4, lines)), [[0, 2, 3], [1]])

    def test_changing_an_answer_after_it_was_told(self):
        tree = (4, [(0, 1), (1, 2), (2, 3)])
        middles(tree).clear()
        rooted_at(tree, 1).append(9)
        free_matched(tree, tree)[1].clear()
        groups = free_alike_knots(tree)
        groups[0].append(7)
        groups.pop()
        self.assertEqual(middles(tree), [1, 2])
        self.assertEqual(rooted_at(tree, 1), [1, None, 1, 2])
        self.assertEqual(len(free_matched(tree, tree)[1]), 4)
        self.assertEqual(free_alike_knots(tree), [[0, 3], [1, 2]])
        self.assertEqual(tree, (4, [(0, 1), (1, 2), (2, 3)]))

    def test_a_later_answer_changes_no_earlier_one(self):
        tree = (3, [(0, 1), (1, 2)])
        told = [middles(tree), rooted_at(tree, 1), free_matched(tree, tree), free_alike_knots(tree)]
        before = deepcopy(told)
        rooted_at(tree, 2)
        middles((2, [(0, 1)]))
        free_matched((2, [(0, 1)]), (2, [(0, 1)]))
        self.assertRaises(NoTree, free_alike_knots, (3, [(0, 1), (1, 0)]))
        self.assertEqual(told, before)

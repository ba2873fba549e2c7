"""Trees to test with, and slow, plain answers to hold the program's against."""

from copy import deepcopy
from itertools import combinations, permutations, product
from math import gcd

HUGE = 10 ** 20

NO_TREES = [
    [], [0], [1, 0], [1, 2, 0], [-1], [HUGE],
    [None, None], [None, 0, None], [1, None, None, 2], [None] * 100,
    [None, -1], [None, -2], [None, 2], [None, HUGE], [None, -HUGE], [-1, None], [-2, None], [2, None], [HUGE, None],
    [None, 0, -1], [None, 0, -2], [None, -3, 0], [None, 0, 3], [None, 0, 4], [None, 0, HUGE], [None, 0, 10 ** 99],
    [0, None], [None, 1], [None, 0, 2], [None, 1, 1], [None] + list(range(98)) + [99],
    [None, 2, 1], [1, 0, None], [None, 2, 3, 1], [None, 0, 3, 2], [None, 2, 1, 1, 3], [None, 99] + list(range(1, 99)),
]

ROW = [(knot, knot + 1) for knot in range(99)]

NO_FREE_TREES = [
    (0, []), (-1, []), (-2, []), (-HUGE, []), (0, [(0, 0)]), (0, [(0, 1)]), (-1, [(0, 1)]), (-1, ROW), (0, ROW),
    (2, []), (3, [(0, 1)]), (3, []), (100, ROW[1:]), (100, ROW[:98]), (100, []),
    (1, [(0, 0)]), (1, [(0, 1)]), (2, [(0, 1), (0, 1)]), (3, [(0, 1), (1, 2), (2, 0)]), (100, ROW + [(99, 0)]),
    (3, [(0, 1), (0, 1)]), (3, [(0, 1), (1, 0)]), (4, [(0, 1), (1, 2), (2, 1)]), (100, ROW[:98] + [(1, 0)]),
    (2, [(0, 0)]), (2, [(1, 1)]), (3, [(0, 1), (2, 2)]), (3, [(0, 1), (1, 1)]), (100, ROW[:98] + [(99, 99)]),
    (2, [(0, -1)]), (2, [(-1, 0)]), (2, [(-2, 1)]), (2, [(1, -2)]), (2, [(-1, -2)]), (2, [(0, 2)]), (2, [(2, 0)]),
    (2, [(0, HUGE)]), (2, [(HUGE, 0)]), (2, [(0, -HUGE)]), (2, [(-HUGE, HUGE)]), (2, [(0, 10 ** 99)]), (2, [(1, 2)]),
    (3, [(0, 1), (1, -1)]), (3, [(0, 1), (-1, 0)]), (3, [(0, 1), (1, 3)]), (100, ROW[:98] + [(98, -1)]),
    (100, ROW[:98] + [(98, 100)]), (100, ROW[:98] + [(HUGE, 98)]),
    (4, [(0, 1), (1, 2), (2, 0)]), (4, [(1, 2), (2, 3), (3, 1)]), (5, [(0, 1), (2, 3), (3, 4), (4, 2)]),
    (100, ROW[1:] + [(99, 1)]), (100, ROW[:60] + ROW[61:] + [(99, 61)]),
    (2, ROW[:2]), (4, ROW[:2]), (99, ROW), (101, ROW), (HUGE, []), (HUGE, ROW), (10 ** 99, [(0, 1)]), (1, ROW),
]


def unchanged(case, function, *handed):
    """The answer to what is handed in, which has to stay as it was."""
    before = deepcopy(handed)
    answer = function(*handed)
    case.assertEqual(handed, before)
    return answer


def refused(case, error, function, *handed):
    """That it is refused with this error, and what is handed in stays as it was."""
    before = deepcopy(handed)
    with case.subTest(function=function.__name__, handed=handed):
        case.assertRaises(error, function, *handed)
        case.assertEqual(handed, before)


def chain(count):
    return [None] + list(range(count - 1))


def star(count):
    return [None] + [0] * (count - 1)


def halved(count):
    """Knot k lies under knot (k - 1) // 2, as in a heap."""
    return [None] + [(knot - 1) // 2 for knot in range(1, count)]


def comb(count):
    """A chain of the even knots, each with one odd knot hanging on it."""
    return [None] + [knot - 1 if knot % 2 else knot - 2 for knot in range(1, count)]


def renumbered(above, new_numbers):
    """The same tree, where knot k is now called new_numbers[k]."""
    answer = [None] * len(above)
    for knot, upper in enumerate(above):
        answer[new_numbers[knot]] = None if upper is None else new_numbers[upper]
    return answer


def orders(count):
    """Several orders of the numbers below count, most with nought not in front."""
    numbers = list(range(count))
    answer = [numbers, numbers[::-1], numbers[1:] + numbers[:1], numbers[::2][::-1] + numbers[1::2]]
    for step in (3, 7, 11, 13):
        if gcd(step, count) == 1:
            answer.append([(number * step + 1) % count for number in numbers])
    return answer


def growing_trees(count):
    """Trees whose knots each lie under a lower one: every shape is among them."""
    uppers = [range(knot) for knot in range(1, count)]
    return [[None] + list(choice) for choice in product(*uppers)]


def plainly_a_tree(above):
    """Point 2 word by word."""
    if len(above) == 0 or above.count(None) != 1:
        return False
    if any(upper is not None and upper not in range(len(above)) for upper in above):
        return False
    return all(comes_to_root(above, knot) for knot in range(len(above)))


def comes_to_root(above, knot):
    for _ in above:
        if above[knot] is None:
            return True
        knot = above[knot]
    return False


def plain_form(above, knot):
    """Point 3 word by word."""
    parts = [plain_form(above, part) for part, upper in enumerate(above) if upper == knot]
    return "(" + "".join(sorted(parts)) + ")"


def plain_form_of(above):
    return plain_form(above, above.index(None))


def plain_forms(most_knots):
    """The forms of all rooted trees of at most so many knots."""
    return {plain_form_of(above) for count in range(1, most_knots + 1) for above in growing_trees(count)}


def plainly_matches(one, other, mates):
    """Point 5 word by word."""
    if len(one) != len(other) or sorted(mates) != list(range(len(one))):
        return False
    uppers = [None if upper is None else mates[upper] for upper in one]
    return uppers == [other[mate] for mate in mates]


def plain_ways(above):
    """All ways of a tree on itself, every order of its knots tried."""
    return [list(mates) for mates in permutations(range(len(above))) if plainly_matches(above, above, mates)]


def plain_groups(count, ways):
    """Point 8 word by word, from all the ways there are."""
    groups = []
    for knot in range(count):
        group = sorted({way[knot] for way in ways})
        if group not in groups:
            groups.append(group)
    return groups


def numbered_trees(count):
    """All rooted trees of so many knots, in every numbering."""
    return [list(above) for above in product([None] + list(range(count)), repeat=count) if plainly_a_tree(above)]


def over(*parts):
    """A root over the roots of these trees."""
    above = [None]
    for part in parts:
        first = len(above)
        above.extend(0 if upper is None else first + upper for upper in part)
    return above


def freed(above):
    """The free tree that a rooted one is, with its root forgotten."""
    return (len(above), [(knot, upper) for knot, upper in enumerate(above) if upper is not None])


def joined(one, other):
    """The free tree of two rooted ones whose roots a line joins."""
    return freed(one + [0 if upper is None else len(one) + upper for upper in other])


def free_renumbered(tree, new_numbers):
    count, lines = tree
    return (count, [(new_numbers[first], new_numbers[second]) for first, second in lines])


def plainly_a_free_tree(tree):
    """Point 9 word by word."""
    count, lines = tree
    if count < 1 or len(lines) != count - 1:
        return False
    if any(first == second or not {first, second} <= set(range(count)) for first, second in lines):
        return False
    return all(None not in plain_steps(tree, knot) for knot in range(count))


def plain_steps(tree, start):
    """How many lines one goes over to each knot, at least; None where one doesn't come to it."""
    count, lines = tree
    beside = [set() for _ in range(count)]
    for first, second in lines:
        beside[first].add(second)
        beside[second].add(first)
    steps = [None] * count
    reached = {start}
    for step in range(count):
        for knot in reached:
            steps[knot] = step
        reached = {other for knot in reached for other in beside[knot] if steps[other] is None}
    return steps


def plain_middles(tree):
    """Point 10 word by word."""
    farness = [max(plain_steps(tree, knot)) for knot in range(tree[0])]
    return [knot for knot in range(tree[0]) if farness[knot] == min(farness)]


def plain_rooted_at(tree, knot):
    """Above a knot lies the one beside it that is one line nearer to the root."""
    count, lines = tree
    steps = plain_steps(tree, knot)
    above = [None] * count
    for first, second in lines:
        lower, upper = (first, second) if steps[first] > steps[second] else (second, first)
        above[lower] = upper
    return above


def plain_free_form(tree):
    """Point 11 word by word."""
    roots = plain_middles(tree)
    if len(roots) == 1:
        return plain_form_of(plain_rooted_at(tree, roots[0]))
    parts = []
    for root, other in (roots, roots[::-1]):
        above = plain_rooted_at(tree, root)
        above[other] = None
        parts.append(plain_form(above, root))
    return "-".join(sorted(parts))


def plainly_free_matches(one, other, mates):
    """Point 12 word by word."""
    if one[0] != other[0] or sorted(mates) != list(range(one[0])):
        return False
    return {frozenset(line) for line in free_renumbered(one, mates)[1]} == {frozenset(line) for line in other[1]}


def plain_free_ways(tree):
    """All ways of a free tree on itself, every order of its knots tried."""
    return [list(mates) for mates in permutations(range(tree[0])) if plainly_free_matches(tree, tree, mates)]


def numbered_free_trees(count):
    """All free trees of so many knots, in every numbering."""
    lines = list(combinations(range(count), 2))
    trees = [(count, list(choice)) for choice in combinations(lines, count - 1)]
    return [tree for tree in trees if plainly_a_free_tree(tree)]

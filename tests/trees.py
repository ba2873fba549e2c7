"""Trees to test with, and slow, plain answers to hold the program's against."""

from itertools import product
from math import gcd


def chain(count):
    return [None] + list(range(count - 1))


def star(count):
    return [None] + [0] * (count - 1)


def halved(count):
    """Knot k lies under knot (k - 1) // 2, as in a heap."""
    return [None] + [(knot - 1) // 2 for knot in range(1, count)]


def comb(count):
    """A chain of the even knots, each with one odd knot hanging on it."""
    return [None] + [knot - 1 if knot % 2 else knot - 2 for knot in range(1, count)]


def renumbered(above, new_numbers):
    """The same tree, where knot k is now called new_numbers[k]."""
    answer = [None] * len(above)
    for knot, upper in enumerate(above):
        answer[new_numbers[knot]] = None if upper is None else new_numbers[upper]
    return answer


def orders(count):
    """Several orders of the numbers below count, most with nought not in front."""
    numbers = list(range(count))
    answer = [numbers, numbers[::-1], numbers[1:] + numbers[:1], numbers[::2][::-1] + numbers[1::2]]
    for step in (3, 7, 11, 13):
        if gcd(step, count) == 1:
            answer.append([(number * step + 1) % count for number in numbers])
    return answer


def growing_trees(count):
    """Trees whose knots each lie under a lower one: every shape is among them."""
    uppers = [range(knot) for knot in range(1, count)]
    return [[None] + list(choice) for choice in product(*uppers)]


def plainly_a_tree(above):
    """Point 2 word by word."""
    if len(above) == 0 or above.count(None) != 1:
        return False
    if any(upper is not None and upper not in range(len(above)) for upper in above):
        return False
    return all(comes_to_root(above, knot) for knot in range(len(above)))


def comes_to_root(above, knot):
    for _ in above:
        if above[knot] is None:
            return True
        knot = above[knot]
    return False


def plain_form(above, knot):
    """Point 3 word by word."""
    parts = [plain_form(above, part) for part, upper in enumerate(above) if upper == knot]
    return "(" + "".join(sorted(parts)) + ")"


def plain_form_of(above):
    return plain_form(above, above.index(None))


def plain_forms(most_knots):
    """The forms of all rooted trees of at most so many knots."""
    return {plain_form_of(above) for count in range(1, most_knots + 1) for above in growing_trees(count)}

"""Free trees, each a count of knots and a list of lines between them."""

from shapekin.errors import NoTree
from shapekin.mates import grouped, how_many, matched
from shapekin.rooted import form_of, knot_forms


def middles(tree):
    beside = knots_beside(tree)
    farnesses = [farness(beside, knot) for knot in range(len(beside))]
    least = min(farnesses)
    return [knot for knot, far in enumerate(farnesses) if far == least]


def rooted_at(tree, knot):
    return hung_up(knots_beside(tree), knot)


def free_form(tree):
    roots = middles(tree)
    if len(roots) == 1:
        return form_of(rooted_at(tree, roots[0]))
    # With the one middle as the root, what lies under the other is just the other's part.
    parts = [
        knot_forms(rooted_at(tree, roots[1]))[roots[0]],
        knot_forms(rooted_at(tree, roots[0]))[roots[1]],
    ]
    return "-".join(sorted(parts))


def free_matched(one, other):
    one_form = free_form(one)
    other_form = free_form(other)
    if one_form != other_form:
        return ("unlike", one_form, other_form)
    return matched(rooted_in_the_middle(one), rooted_in_the_middle(other))


# Any knot does as the root, nought among them, whose group always stands first.
def free_how_many(tree):
    return how_many(rooted_at(tree, 0)) * len(free_alike_knots(tree)[0])


# A way brings a knot to a mate just where the tree is alike with the one and with the other as its root.
def free_alike_knots(tree):
    beside = knots_beside(tree)
    return grouped([form_of(hung_up(beside, knot)) for knot in range(len(beside))])


# Of two middles the one is taken by the form, for which of them is the lower hangs on the numbers.
def rooted_in_the_middle(tree):
    return min([rooted_at(tree, knot) for knot in middles(tree)], key=form_of)


def farness(beside, knot):
    above = walked(beside, knot)
    steps = {}
    # In the order of the walk, so that the steps to the knot above are always told already.
    for met in above:
        steps[met] = 0 if above[met] is None else steps[above[met]] + 1
    return max(steps.values())


def hung_up(beside, root):
    above = walked(beside, root)
    return [above[knot] for knot in range(len(beside))]


# Keyed in the order of the walk, on which the farness leans.
def walked(beside, start):
    above = {start: None}
    order = [start]
    place = 0
    while place < len(order):
        knot = order[place]
        for met in beside[knot]:
            if met not in above:
                above[met] = knot
                order.append(met)
        place = place + 1
    # A line told twice, or of a knot with itself, is one too few to come to all knots.
    if len(order) != len(beside):
        raise NoTree("from some knot one does not come to each other one")
    return above


def knots_beside(tree):
    lines = tree[1]
    # Asked before the count is used: one that is much too great would ask for as many lists.
    if tree[0] != len(lines) + 1:
        raise NoTree("there is not just one line fewer than knots")
    beside = [[] for knot in range(tree[0])]
    for line in lines:
        # Python would take a number below nought as one counted from the end.
        if min(line) < 0 or max(line) >= len(beside):
            raise NoTree("some line has a knot that is not there")
        beside[line[0]].append(line[1])
        beside[line[1]].append(line[0])
    return beside

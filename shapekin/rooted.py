"""Rooted trees, each a list of the knots straight above its knots, and their forms."""

from shapekin.errors import NoTree

# No form holds this sign, so a form with it tells where the marked knot lies.
MARK = "*"


def form_of(above):
    return knot_forms(above)[root_of(above)]


def knot_forms(above, marked=None):
    root = root_of(above)
    under = knots_under(above)
    order = downward(root, under)
    # What hangs on a ring of knots is never met on the way down from the root.
    if len(order) != len(above):
        raise NoTree("from some knot one does not come to the root")
    forms = [""] * len(above)
    for knot in reversed(order):
        parts = [forms[part] for part in under[knot]]
        if knot == marked:
            parts.append(MARK)
        forms[knot] = form_over(parts)
    return forms


def form_over(parts):
    return "(" + "".join(sorted(parts)) + ")"


def root_of(above):
    roots = [knot for knot, upper in enumerate(above) if upper is None]
    if len(roots) != 1:
        raise NoTree("there is not just one root")
    return roots[0]


def knots_under(above):
    under = [[] for upper in above]
    for knot, upper in enumerate(above):
        if upper is not None:
            # Python would take a number below nought as one counted from the end.
            if upper < 0 or upper >= len(above):
                raise NoTree("the knot above some knot is not there")
            under[upper].append(knot)
    return under


# A walk by a list, not by calls within calls: a long chain would go too deep for these.
def downward(root, under):
    order = [root]
    place = 0
    while place < len(order):
        order.extend(under[order[place]])
        place = place + 1
    return order

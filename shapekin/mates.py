"""Rooted trees matched with one another and with themselves."""

from shapekin.rooted import downward, knot_forms, knots_under, root_of


def matched(one, other):
    one_forms = knot_forms(one)
    other_forms = knot_forms(other)
    one_form = one_forms[root_of(one)]
    other_form = other_forms[root_of(other)]
    if one_form != other_form:
        return ("unlike", one_form, other_form)
    return ("alike", mates_of(by_forms(one, one_forms), by_forms(other, other_forms)))


def how_many(above):
    forms = knot_forms(above)
    ways = 1
    for parts in knots_under(above):
        ways = ways * swaps([forms[part] for part in parts])
    return ways


def alike_knots(above):
    root = root_of(above)
    return grouped([knot_forms(above, knot)[root] for knot in range(len(above))])


# Some way brings a knot to a mate just where the tree with the one marked is alike to it with the other marked.
def way_with(above, knot, mate):
    root = root_of(above)
    knot_marked = knot_forms(above, knot)
    mate_marked = knot_forms(above, mate)
    if knot_marked[root] != mate_marked[root]:
        return None
    return mates_of(by_forms(above, knot_marked), by_forms(above, mate_marked))


# Trees of one form, walked down by the forms of their parts, show knots that go together at the same places.
def by_forms(above, forms):
    under = [sorted(parts, key=lambda part: forms[part]) for parts in knots_under(above)]
    return downward(root_of(above), under)


def mates_of(one_order, other_order):
    mates = [0] * len(one_order)
    for knot, mate in zip(one_order, other_order):
        mates[knot] = mate
    return mates


# Parts of one form may change places in every way: the first of them has one place, the second two, and so on.
def swaps(forms):
    met = {}
    ways = 1
    for form in forms:
        met[form] = met.get(form, 0) + 1
        ways = ways * met[form]
    return ways


def grouped(marks):
    groups = {}
    for knot, mark in enumerate(marks):
        groups.setdefault(mark, []).append(knot)
    return list(groups.values())

"""The texts that are forms of rooted trees, and the trees of these."""

from shapekin.errors import NoForm
from shapekin.rooted import form_of


def is_form(text):
    try:
        tree_of(text)
    except NoForm:
        return False
    return True


def tree_of(text):
    above = nested_knots(text)
    # Brackets that are well nested tell some tree; only the sorted ones are its form.
    if form_of(above) != text:
        raise NoForm("some parts are not in order")
    return above


def nested_knots(text):
    above = []
    inmost = None
    for sign in text:
        if sign == "(":
            if inmost is None and len(above) > 0:
                raise NoForm("something stands behind the root")
            above.append(inmost)
            inmost = len(above) - 1
        elif sign == ")":
            if inmost is None:
                raise NoForm("a knot is closed that was not opened")
            inmost = above[inmost]
        else:
            raise NoForm("a sign is no bracket")
    if inmost is not None:
        raise NoForm("a knot is not closed")
    if len(above) == 0:
        raise NoForm("there is no knot")
    return above

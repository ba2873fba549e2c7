"""Points 1, 4 and 5 of forms: is_form and tree_of."""

import unittest
from itertools import product

from shapekin.errors import NoForm
from shapekin.forms import is_form, tree_of
from shapekin.rooted import form_of
from tests.trees import chain, comb, halved, plain_form_of, plain_forms, star

OTHER_SIGNS = (" ", "a", "-", "[", "]", "{", "0", "\n", "\t", "\0", "\uff08", "\uff09")
BIG_FORMS = [plain_form_of(tree) for tree in (chain(100), star(100), halved(100), comb(100))]


def plain_tree_of(form):
    """Each knot's own bracket and the innermost one that stands around it, by counting brackets."""
    opens = [place for place, sign in enumerate(form) if sign == "("]
    above = []
    for place in opens:
        depth = 0
        upper = None
        for earlier in range(place - 1, -1, -1):
            depth += 1 if form[earlier] == "(" else -1
            if depth == 1:
                upper = opens.index(earlier)
                break
        above.append(upper)
    return above


class TreesOfForms(unittest.TestCase):
    def told(self, form, above=None):
        with self.subTest(form=form):
            self.assertIs(is_form(form), True)
            tree = tree_of(form)
            self.assertIs(type(tree), list)
            self.assertEqual(tree, plain_tree_of(form))
            self.assertIsNone(tree[0])
            self.assertEqual(form_of(tree), form)
            if above is not None:
                self.assertEqual(tree, above)

    def test_knots_stand_in_the_order_of_their_brackets(self):
        self.told("()", [None])
        self.told("(())", [None, 0])
        self.told("(()())", [None, 0, 0])
        self.told("((()))", [None, 0, 1])
        self.told("((())())", [None, 0, 1, 0])
        self.told("((())(()))", [None, 0, 1, 0, 3])
        self.told("(((())())((())()))", [None, 0, 1, 2, 1, 0, 5, 6, 5])
        self.told("(((()))(()())(())())", [None, 0, 1, 2, 0, 4, 4, 0, 7, 0])

    def test_each_small_form(self):
        for form in sorted(plain_forms(7)):
            self.told(form)

    def test_forms_of_a_hundred_knots(self):
        self.told("(" * 100 + ")" * 100, chain(100))
        self.told("(" + "()" * 99 + ")", star(100))
        for form in BIG_FORMS:
            self.told(form)

    def test_forms_of_a_thousand_signs(self):
        self.told("(" * 500 + ")" * 500, chain(500))
        self.told("(" + "()" * 499 + ")", star(500))
        self.told("(" * 250 + "()" * 250 + ")" * 250)

    def test_somewhat_more_than_a_thousand_signs(self):
        self.assertEqual(tree_of("(" * 1500 + ")" * 1500), chain(1500))
        self.assertIs(is_form("(" + "()" * 1499 + ")"), True)


class WhatIsNoForm(unittest.TestCase):
    def refused(self, text):
        with self.subTest(text=text):
            self.assertIs(is_form(text), False)
            with self.assertRaises(NoForm):
                tree_of(text)

    def test_the_documents_own(self):
        for text in ("", "(", "()()", "(()(()))", "( )", "(a)"):
            self.refused(text)

    def test_brackets_that_are_not_well_nested(self):
        for text in (")", ")(", "())", "(()", "())(", "(()))(", "((", "))", "())(()"):
            self.refused(text)

    def test_other_signs(self):
        for sign in OTHER_SIGNS:
            for text in (sign, sign + "()", "()" + sign, "(" + sign + ")", "(()" + sign + "())"):
                self.refused(text)
        for text in ("()-()", "[]", "None", "\uff08\uff09"):
            self.refused(text)

    def test_one_sign_left_out_put_in_or_changed(self):
        for form in sorted(plain_forms(5)) + BIG_FORMS[2:]:
            for place in range(len(form)):
                self.refused(form[:place] + form[place + 1:])
                for sign in ("(", ")", " ", "a"):
                    self.refused(form[:place] + sign + form[place:])
                    if sign != form[place]:
                        self.refused(form[:place] + sign + form[place + 1:])
            for sign in ("(", ")", " ", "a"):
                self.refused(form + sign)

    def test_parts_out_of_order(self):
        for text in ("(()(()))", "(()(())())", "((())()(()))", "((()())(())(()()))", "((())((())))", "((()())(()(())))"):
            self.refused(text)

    def test_parts_out_of_order_deep_within(self):
        for depth in (1, 2, 50, 97, 495):
            self.refused("(" * depth + "(()(()))" + ")" * depth)
        self.refused("(((((())()(())))))")
        self.refused("((((()(()))))()())")
        self.refused("((((())())(()(()))))")

    def test_a_form_twice(self):
        for form in sorted(plain_forms(5)) + BIG_FORMS:
            self.refused(form + form)

    def test_texts_of_a_thousand_signs(self):
        for sign in ("(", ")", "()", ")(", "a", " ", "(a)-"):
            self.refused((sign * 1000)[:1000])
        self.refused("(" * 501 + ")" * 499)
        self.refused("(" * 499 + ")" * 501)
        self.refused("(" * 499 + ")" * 500 + " ")
        self.refused("(" + "()" * 497 + "(())" + ")")
        self.refused("(" * 499 + "a" + ")" * 500)

    def test_each_short_text(self):
        forms = plain_forms(6)
        for length in range(13):
            for signs in product("()", repeat=length):
                self.one_of(forms, "".join(signs))
        for length in range(1, 7):
            for signs in product("() a", repeat=length):
                self.one_of(forms, "".join(signs))

    def one_of(self, forms, text):
        if text in forms:
            self.assertIs(is_form(text), True, text)
            self.assertEqual(form_of(tree_of(text)), text)
        else:
            self.assertIs(is_form(text), False, text)
            self.assertRaises(NoForm, tree_of, text)


class NothingIsKept(unittest.TestCase):
    def test_changing_an_answer_after_it_was_told(self):
        for form in ("()", "((())())", "(" * 100 + ")" * 100):
            first = tree_of(form)
            right = plain_tree_of(form)
            second = tree_of(form)
            first[0] = 7
            first.append(None)
            self.assertEqual(second, right)
            self.assertEqual(tree_of(form), right)
            self.assertIs(is_form(form), True)
            self.assertEqual(form_of(tree_of(form)), form)

    def test_a_later_answer_changes_no_earlier_one(self):
        told = tree_of("((())())")
        tree_of("(()())")
        self.assertRaises(NoForm, tree_of, "(()(()))")
        form_of(told)
        self.assertEqual(told, [None, 0, 1, 0])

    def test_a_refusal_leaves_nothing_behind(self):
        for text in ("", "(", "(()(()))", "(a)"):
            self.assertRaises(NoForm, tree_of, text)
            self.assertEqual(tree_of("(())"), [None, 0])
            self.assertIs(is_form(text), False)

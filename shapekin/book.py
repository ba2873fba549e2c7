"""A book of the kinds of trees that it was told."""

from shapekin.errors import NoKind, NoTree
from shapekin.free import free_form
from shapekin.rooted import form_of


class Book:
    def __init__(self):
        self.numbers = {}
        self.forms = []
        self.counts = []

    def rooted(self, above):
        return self.one_more("rooted", form_of(above))

    def free(self, tree):
        return self.one_more("free", free_form(tree))

    def form(self, kind):
        # Python would take a number below nought as one counted from the end.
        if kind < 0 or kind >= len(self.forms):
            raise NoKind("there is no such kind")
        return self.forms[kind]

    # A rooted and a free tree may have the same text as their form, so the form alone tells no kind.
    def one_more(self, told_as, form):
        if (told_as, form) not in self.numbers:
            self.numbers[(told_as, form)] = len(self.forms)
            self.forms.append(form)
            self.counts.append(0)
        kind = self.numbers[(told_as, form)]
        self.counts[kind] = self.counts[kind] + 1
        return (kind, self.counts[kind])


def answers(deeds):
    book = Book()
    return [answer(book, deed) for deed in deeds]


def answer(book, deed):
    try:
        if deed[0] == "rooted":
            return book.rooted(deed[1])
        if deed[0] == "free":
            return book.free(deed[1])
        return book.form(deed[1])
    except NoTree:
        return "no tree"
    except NoKind:
        return "no kind"

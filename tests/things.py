"""Things to write as bytes, put together by a chooser (a random.Random with a seed).

Nothing here uses the program.
"""
from tests import plain_codes
from tests.chance import ANY

CHARACTERS = [chr(code) for code in range(32, 127) if code != 37]


class Some:
    """Things of all sorts; also such as no statement makes."""

    def __init__(self, chooser):
        self.chooser = chooser

    def number(self):
        bits = self.chooser.choice((0, 1, 7, 8, 14, 15, 50, 100, 419, 420))
        return self.chooser.choice((0, 1, 127, 128, 2 ** bits - 1, self.chooser.getrandbits(bits or 1)))

    def text(self):
        return "".join(self.chooser.choice(CHARACTERS) for _ in range(self.chooser.choice((0, 1, 2, 5, 30, 131))))

    def name(self):
        return self.chooser.choice(("e", "p_1", "relation_012", "x"))

    def value(self):
        sign = self.chooser.choice((1, 1, -1))
        return self.text() if self.chooser.random() < 0.5 else sign * self.number()

    def row(self):
        return tuple(self.value() for _ in range(self.chooser.randrange(6)))

    def term(self):
        return self.chooser.choice((ANY, ("variable", self.name()), ("value", self.value())))

    def terms(self):
        return tuple(self.term() for _ in range(self.chooser.randrange(6)))

    def literal(self):
        form = self.chooser.choice(("fact", "not", "compare", "is", "count"))
        if form in ("fact", "not"):
            return form, self.name(), self.terms()
        if form == "compare":
            return form, self.chooser.choice(plain_codes.SIGNS), self.term(), self.term()
        if form == "is":
            return form, self.name(), self.chooser.choice("+-*"), self.term(), self.term()
        return form, self.name(), self.name(), self.terms()

    def body(self):
        return tuple(self.literal() for _ in range(self.chooser.randrange(5)))

    def item(self):
        sort = self.chooser.choice(("relation", "fact", "fact", "rule", "denial"))
        if sort == "relation":
            return sort, self.name(), self.number()
        if sort == "fact":
            return sort, self.name(), self.row()
        if sort == "rule":
            return sort, self.name(), self.name(), self.terms(), self.body()
        return sort, self.name(), self.body()

    def change(self):
        if self.chooser.random() < 0.6:
            return "comes", self.item()
        return "goes", (self.chooser.randrange(4), self.name(), self.row())

    def changes(self):
        return [self.change() for _ in range(self.chooser.randrange(7))]

    def items(self):
        return [self.item() for _ in range(self.chooser.randrange(13))]

    def thing(self, form):
        return getattr(self, form)()

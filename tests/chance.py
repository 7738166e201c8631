"""States, rules and bodies for the tests: short words to write them with, and functions in which a
chooser (a random.Random with a seed) puts them together.

Nothing here uses the program.
"""
from tests import plain, plain_rules

ANY = ("any",)
VARIABLES = "wxyz"
VALUES = (0, 1, 2, 3, -1, "a", "1")
BASE = {"a": 1, "b": 2, "c": 2, "d": 3}
DERIVED = {"p": 1, "q": 2, "r": 1, "s": 2}
SIGNS = ("=", "<>", "<", "<=", ">", ">=")
V, W, X, Y, Z = [("variable", name) for name in "vwxyz"]


def value(worth):
    return ("value", worth)


def fact(relation, *terms):
    """A literal with terms, or an item with values."""
    return ("fact", relation, terms)


def rule(name, relation, terms, *body):
    return ("rule", name, relation, terms, body)


def denial(name, *body):
    return ("denial", name, body)


class Shape:
    """What bodies are made of: relations, and how often something is wrong."""

    def __init__(self, chooser, known, faults=0.0, values=VALUES):
        self.chooser = chooser
        self.known = known
        self.faults = faults
        self.values = values

    def wrong(self):
        return self.chooser.random() < self.faults

    def relation(self):
        """A relation and the number of terms that a literal gives it."""
        names = sorted(self.known)
        if self.chooser.random() < 0.5:
            names = [name for name in names if name in DERIVED] or names
        name = self.chooser.choice(names)
        if self.wrong():
            return "none", 1
        if self.wrong():
            return name, max(0, self.known[name] + self.chooser.choice((-1, 1)))
        return name, self.known[name]

    def term(self, names):
        """A term that has a value, or a fault."""
        if self.wrong():
            return self.chooser.choice((ANY, ("variable", self.chooser.choice(VARIABLES))))
        if names and self.chooser.random() < 0.75:
            return ("variable", self.chooser.choice(sorted(names)))
        return ("value", self.chooser.choice(self.values))

    def terms(self, names, many):
        return tuple(ANY if self.chooser.random() < 0.1 else self.term(names) for _ in range(many))

    def literal(self, bound):
        form = self.chooser.choice(("fact",) * 6 + ("not", "compare", "is", "count"))
        name, many = self.relation()
        variable = self.chooser.choice(VARIABLES)
        if form == "fact":
            return (form, name, self.terms(VARIABLES, many))
        if form == "not":
            return (form, name, self.terms(bound, many))
        if form == "compare":
            return (form, self.chooser.choice(SIGNS), self.term(bound), self.term(bound))
        if form == "is":
            return (form, variable, self.chooser.choice("+-*"), self.term(bound), self.term(bound))
        own = self.faults and self.chooser.random() < 0.3
        names = VARIABLES if own else VARIABLES.replace(variable, "")
        return (form, variable, name, self.terms(names, many))

    def body(self, most, least=0):
        """A body, with the variables that it binds."""
        bound, made = [], []
        # Long bodies seldom hold, so the short ones come more often.
        for _ in range(min(self.chooser.randint(least, most), self.chooser.randint(least, most))):
            literal = self.literal(bound)
            bound += plain_rules.newly_bound(literal, bound)
            made.append(literal)
        return tuple(made), bound

    def head(self, bound, many):
        return tuple(self.term(bound) for _ in range(many))


def some_row(chooser, many, values=VALUES):
    return tuple(chooser.choice(values) for _ in range(many))


def some_facts(chooser, base, most, values):
    """Some facts for each relation of the base, each once."""
    items = []
    for name, many in base.items():
        for _ in range(max(chooser.randint(0, most), chooser.randint(0, most))):
            items.append(("fact", name, some_row(chooser, many, values)))
    return plain.in_order(items)


def some_rule(chooser, items, name, derived, most):
    """A rule of one of these derived relations; its relations are mostly there."""
    relation = chooser.choice(sorted(derived))
    known = {**plain_rules.widths(items), relation: derived[relation]}
    shape = Shape(chooser, known, values=VALUES[:4])
    body, bound = shape.body(most)
    return ("rule", name, relation, shape.head(bound, derived[relation]), body)


def size_of(items):
    """The number of rows of the model, or None if a body has many ways in it (point [11])."""
    rows = plain_rules.model(items)
    if max(len(known) for known in rows.values()) > 40:
        return None
    for item in plain_rules.of_sort(items, "rule"):
        if any(len(plain_rules.ways(item[4][:many], rows, rows)) > 200 for many in range(len(item[4]) + 1)):
            return None
    return sum(len(known) for known in rows.values())


def some_state(chooser, rules=5, facts=3):
    """A sound state of relations, facts and accepted rules, most of which give something."""
    items = [("relation", name, many) for name, many in BASE.items()]
    items += some_facts(chooser, BASE, facts, VALUES[:3] + ("a",))
    many, size = chooser.randint(0, rules), size_of(items)
    for at in chooser.sample(range(10, 99), 60):
        if len(plain_rules.of_sort(items, "rule")) == many:
            break
        new = some_rule(chooser, items, f"r{at}", DERIVED, 4)
        if plain_rules.rule_problem(items, new) is not None:
            continue
        grown = size_of(items + [new])
        if grown is not None and (grown > size or chooser.random() < 0.3):
            items.append(new)
            size = grown
    return items


def some_step(chooser, name, relation, one, two):
    """A rule that gives pairs from the pairs of other relations."""
    terms, body = chooser.choice((
        ((X, Y), (("fact", one, (X, Y)),)),
        ((Y, X), (("fact", one, (X, Y)),)),
        ((X, Z), (("fact", one, (X, Y)), ("fact", two, (Y, Z)))),
        ((X, Z), (("fact", relation, (X, Y)), ("fact", two, (Y, Z)))),
        ((X, W), (("fact", one, (X, Y)), ("fact", two, (Y, Z)), ("fact", relation, (Z, W)))),
        ((X, Y), (("fact", one, (X, Y)), ("not", two, (Y, X)))),
        ((X, Y), (("fact", one, (X, Y)), ("compare", "<", X, Y))),
        ((X, W), (("fact", one, (X, ANY)), ("count", "w", two, (X, Z)))),
        ((Y, W), (("fact", one, (X, Y)), ("is", "w", "-", X, Y)))))
    return ("rule", name, relation, terms, body)


def some_paths(chooser):
    """A sound state of relations of pairs, with much recursion."""
    items = [("relation", "e", 2), ("relation", "f", 2)]
    items += some_facts(chooser, {"e": 2, "f": 2}, 6, range(5))
    for at in range(12):
        names = sorted(plain_rules.widths(items))
        relation = chooser.choice("pqrs")
        new = some_step(chooser, f"r{(at * 7) % 12}", relation, chooser.choice(names), chooser.choice(names))
        if plain_rules.rule_problem(items, new) is None and size_of(items + [new]) is not None:
            items.append(new)
    return items


def some_denial(chooser, items, name, most=3):
    """A denial whose body is accepted."""
    while True:
        body = Shape(chooser, plain_rules.widths(items), values=VALUES[:4]).body(most, 1)[0]
        if plain_rules.body_problem(items, body) is None:
            return ("denial", name, body)

"""Statements for the tests, put together by a chooser (a random.Random with a seed).

Nothing here uses the program.
"""
from tests import plain, plain_rules
from tests.chance import DERIVED, Shape, size_of, some_row
from tests.plain_rules import of_sort

VALUES = (0, 1, 2, "a", "1")
NAMES = ("a", "b", "c", "p", "q", "r", "none")
RULES = ("r1", "r2", "r3", "r4", "r5")
DENIALS = ("d1", "d2", "d3")
# Facts and rules come more often than what takes them away.
FORMS = (("relation",) * 4 + ("add",) * 10 + ("remove",) * 3 + ("rule",) * 9 + ("deny",) * 3 + ("ask",) * 5
         + ("why",) * 4 + ("wish",) * 3 + ("drop", "drop", "strike", "strike", "allow", "show"))


def spoil(told):
    """Empties all lists in what is told, and the dicts of a state."""
    if isinstance(told, tuple):
        for one in told:
            spoil(one)
    elif isinstance(told, list):
        told.clear()
    elif hasattr(told, "facts"):
        for rows in told.facts.values():
            rows.clear()
        for part in (told.relations, told.facts, told.rules, told.denials):
            part.clear()


class Talk:
    """Statements about a state; some of them, by chance, have faults."""

    def __init__(self, chooser, items, faults=0.1, forms=FORMS):
        self.chooser = chooser
        self.items = items
        self.faults = faults
        self.forms = forms
        self.known = plain_rules.widths(items)
        self.base = {item[1]: item[2] for item in of_sort(items, "relation")}

    def wrong(self):
        return self.chooser.random() < self.faults

    def pick(self, names, others):
        """One of the names that are there, or by fault one of the others."""
        return self.chooser.choice(sorted(names) if names and not self.wrong() else others)

    def row(self, relation):
        """A row for a relation; mostly of its width, and often one that is there."""
        rows = [item[2] for item in self.items if item[:2] == ("fact", relation)]
        if rows and self.chooser.random() < 0.4:
            return self.chooser.choice(rows)
        many = self.known.get(relation, 1)
        if self.wrong():
            many = max(0, many + self.chooser.choice((-1, 1)))
        return some_row(self.chooser, many, VALUES)

    def model_row(self, relation):
        """A row that is often in the model."""
        rows = plain_rules.model(self.items).get(relation)
        return self.chooser.choice(rows) if rows and self.chooser.random() < 0.7 else self.row(relation)

    def candidates(self, most):
        told = []
        for _ in range(self.chooser.randint(0, most)):
            relation = self.pick(self.base, NAMES)
            told.append((relation, self.row(relation)))
        return list(dict.fromkeys(told))

    def body(self, most=3):
        return Shape(self.chooser, self.known or {"a": 1}, self.faults / 3, VALUES[:3]).body(most)

    def rule(self):
        relation = self.pick([], "aaq") if self.wrong() else self.chooser.choice("pqr")
        columns = self.known.get(relation, DERIVED.get(relation, 1)) + (self.wrong() and self.wrong())
        known = {**self.known, relation: columns}
        body, bound = Shape(self.chooser, known, self.faults / 4, VALUES[:3]).body(3)
        head = Shape(self.chooser, known, self.faults / 4, VALUES[:3]).head(bound, columns)
        free = [name for name in RULES if not any(item[:2] == ("rule", name) for item in self.items)]
        return ("rule", self.pick(free, RULES), relation, head, body)

    def statement(self):
        form = self.chooser.choice(self.forms)
        if form == "relation":
            free = [name for name in "abc" if name not in self.known]
            return (form, self.pick(free, NAMES), self.chooser.choice((0, 5) if self.wrong() else (1, 1, 2, 2, 3, 4)))
        if form == "drop":
            return (form, self.pick(self.base, NAMES))
        if form in ("add", "remove"):
            relation = self.pick(self.base, NAMES)
            return (form, relation, self.row(relation))
        if form == "rule":
            return self.rule()
        if form == "strike":
            return (form, self.pick([item[1] for item in of_sort(self.items, "rule")], RULES))
        if form == "deny":
            return (form, self.chooser.choice(DENIALS), self.body()[0])
        if form == "allow":
            return (form, self.pick([item[1] for item in of_sort(self.items, "denial")], DENIALS))
        if form == "ask":
            return (form, self.body(4)[0])
        return self.question(form)

    def question(self, form):
        if form == "show":
            return (form,)
        relation = self.pick(self.known, NAMES)
        row = self.model_row(relation)
        if form == "why":
            return (form, relation, row)
        return (form, relation, row, self.chooser.random() < 0.5, self.candidates(4))


def is_small(items, statement):
    """True if no body has many ways when the statement is said (point [11])."""
    if statement[0] in ("rule", "ask", "deny"):
        body = statement[4] if statement[0] == "rule" else statement[-1]
        if statement[0] == "rule" and plain_rules.rule_problem(items, statement) is None:
            return size_of(plain.in_order(items + [statement])) is not None
        if plain_rules.body_problem(items, body) is None:
            rows = plain_rules.model(items)
            return all(len(plain_rules.ways(body[:many], rows, rows)) < 200 for many in range(len(body) + 1))
    if statement[0] == "add":
        return all(len(rows) < 25 for rows in plain_rules.model(items).values())
    return True


def some_statement(chooser, items, faults=0.1, forms=FORMS):
    """A statement that does not make a state too great."""
    while True:
        statement = Talk(chooser, items, faults, forms).statement()
        if is_small(items, statement):
            return statement

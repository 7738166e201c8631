"""A slow and plain version of a database and its sessions (points [21] to [25]). Nothing here uses the program.

What is told is a tuple whose first part is its kind: `answer`, `problem`, `denied`, `full`, `refused` or
the name of an error.
"""
from tests import plain_codes, plain_disk, plain_rules, plain_statements


class PlainDatabase:

    def __init__(self, sectors):
        self.area_size = (sectors - 2) // 2
        self.items = []
        self.commits = 0
        # For each commit the words of its transaction, and what its statements were told.
        self.history = []

    def fits(self, made):
        return len(plain_disk.block(1, plain_codes.image(self.commits + 1, made))) <= self.area_size

    def store(self, made, words, told):
        """None, or what is told if the state that is made is denied or cannot be stored."""
        if made == self.items:
            return None
        clash = plain_rules.clash(made)
        if clash is not None:
            return ("denied", *clash, plain_rules.least_sets(self.items, made))
        if not self.fits(made):
            return ("full",)
        self.items, self.commits = made, self.commits + 1
        self.history.append((list(words), list(told)))
        return None

    def serial(self):
        """What all committed transactions are told when each is run alone in its place, and the last state."""
        items, told = [], []
        for words, _ in self.history:
            now, items = plain_statements.run(words, items)
            told.append(now)
        return told, items


class PlainSession:

    def __init__(self, database):
        self.database = database
        self.words = None
        self.told = []

    def own(self):
        return plain_statements.own(self.words or [], self.database.items)

    def run(self, statement):
        told, made = plain_statements.say(self.own(), statement)
        if self.words is not None:
            self.words.append(("say", statement))
            self.told.append(told)
            return told
        if told[0] == "problem":
            return told
        return self.database.store(made, [("say", statement)], [told]) or told

    def begin(self):
        if self.words is not None:
            return ("TransactionOpen",)
        self.words, self.told = [], []
        return ("answer", None)

    def commit(self):
        if self.words is None:
            return ("NoTransaction",)
        now, made = plain_statements.run(self.words, self.database.items)
        for index, (before, after) in enumerate(zip(self.told, now)):
            if repr(before) != repr(after):
                self.words = None
                return ("answer", (index, after))
        told = self.database.store(made, self.words, self.told)
        if told is None or told[0] == "full":
            self.words = None
        return told or ("answer", None)

    def rollback(self):
        if self.words is None:
            return ("NoTransaction",)
        self.words = None
        return ("answer", None)

    def savepoint(self, name):
        if self.words is None:
            return ("NoTransaction",)
        self.words.append(("savepoint", name))
        return ("answer", None)

    def rollback_to(self, name):
        if self.words is None:
            return ("NoTransaction",)
        if not plain_statements.has_mark(self.words, name):
            return ("NoSavepoint",)
        self.words.append(("back", name))
        return ("answer", None)


class PlainWatch:

    def __init__(self, database, relation):
        self.database = database
        self.relation = relation
        self.rows = self.now()

    def now(self):
        return plain_rules.model(self.database.items).get(self.relation, [])

    def turn(self):
        before, self.rows = self.rows, self.now()
        return ("answer", ([row for row in self.rows if row not in before],
                           [row for row in before if row not in self.rows]))

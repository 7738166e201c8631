"""The database of a disk, its sessions and its watches."""
from rulestead.denials import clash, least_sets
from rulestead.errors import (
    DatabaseClosed, DatabaseOpen, Denied, DiskFull, NoTransaction, PowerOff, TransactionOpen)
from rulestead.model import heights, model
from rulestead.parts import part
from rulestead.statements import say
from rulestead.states import between
from rulestead.store import Store
from rulestead.transactions import Words


def rows_of(state, relation):
    """The rows of a relation in the model of a state, in order; none if it is not there."""
    return model(part(state, [relation])).get(relation, [])


def without(rows, others):
    """Those rows, in order, that are not among the others."""
    known = {row: True for row in others}
    return [row for row in rows if row not in known]


def store_state(store, made):
    """Stores the changes from the state now to the one that is made, if there are any."""
    changes = between(store.state, made)
    if not changes:
        return
    clashing = clash(made)
    if clashing is not None:
        raise Denied(clashing[0], clashing[1], least_sets(store.state, made))
    store.commit(changes)


class Database:
    """A database, which is open until power fails."""

    def __init__(self, disk):
        if not disk.is_on():
            raise PowerOff("power is off")
        if disk.in_use:
            raise DatabaseOpen("a database of this disk is open")
        self.disk = disk
        self.store = Store(disk)
        self.failures = disk.losses()
        disk.in_use = True

    def session(self):
        """A new Session."""
        self.open_store()
        return Session(self)

    def commits(self):
        """The number of commits."""
        return self.open_store().commits

    def table(self):
        """The table of the model of the state now, with its heights."""
        return heights(self.open_store().state)

    def watch(self, relation):
        """A new Watch of a relation."""
        return Watch(self, relation)

    def open_store(self):
        """The store; raises DatabaseClosed as soon as power failed, wherever that was."""
        if self.disk.losses() != self.failures:
            raise DatabaseClosed("power failed since the database was opened")
        return self.store


class Session:
    """Says statements to a database, in transactions and outside of them."""

    def __init__(self, database):
        self.database = database
        # None outside of a transaction.
        self.words = None

    def run(self, statement):
        """The answer of a statement."""
        store = self.database.open_store()
        if self.words is not None:
            return self.words.say(store.state, statement)
        answer, made = say(store.state, statement)
        store_state(store, made)
        return answer

    def begin(self):
        """Begins a transaction."""
        self.database.open_store()
        if self.words is not None:
            raise TransactionOpen("the session has a transaction already")
        self.words = Words()

    def commit(self):
        """Ends the transaction and stores what it made; tells the index and the answer that refuse it."""
        store = self.database.open_store()
        index, told, made = self._open_words().again(store.state)
        if index is not None:
            self.words = None
            return (index, told)
        try:
            store_state(store, made)
        except DiskFull:
            self.words = None
            raise
        self.words = None
        return None

    def rollback(self):
        """Ends the transaction."""
        self.database.open_store()
        self._open_words()
        self.words = None

    def savepoint(self, name):
        """Marks the own state of the transaction under a name."""
        self.database.open_store()
        self._open_words().savepoint(name)

    def rollback_to(self, name):
        """Goes back to the newest mark of this name."""
        store = self.database.open_store()
        self._open_words().rollback_to(store.state, name)

    def _open_words(self):
        """The words of the transaction."""
        if self.words is None:
            raise NoTransaction("the session has no transaction")
        return self.words


class Watch:
    """Tells which rows of a relation come and go."""

    def __init__(self, database, relation):
        self.database = database
        self.relation = relation
        self.rows = rows_of(database.open_store().state, relation)

    def turn(self):
        """The pair of the lists of the rows that came and that went since the last turn."""
        before = self.rows
        now = rows_of(self.database.open_store().state, self.relation)
        self.rows = now
        return (without(now, before), without(before, now))

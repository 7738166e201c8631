import collections
import copy
import random
import time
import unittest

from rulestead.database import Database, Session, Watch
from rulestead.disk import Disk
from rulestead.errors import (
    DatabaseClosed, DatabaseOpen, Denied, DiskFull, NoSavepoint, NoTransaction, PowerOff, Refused, TransactionOpen)
from rulestead.judge import accepts
from rulestead.states import State
from rulestead.store import Store
from tests import plain, plain_rules
from tests.chance import ANY, X, Y, Z, fact, rule, value
from tests.plain_database import PlainDatabase, PlainSession, PlainWatch
from tests.talk import FORMS, some_statement, spoil

BASE = [("relation", "a", 1), ("relation", "b", 2)]
ONE, TWO = ("add", "a", (1,)), ("add", "a", (2,))
DENY = ("deny", "d", (fact("a", X), fact("a", Y), ("compare", "<", X, Y)))
ASK = ("ask", (fact("a", X),))


def result(action, *args):
    """What an action tells: its answer or its error, as the plain version tells it."""
    try:
        return "answer", action(*args)
    except Refused as refused:
        return "problem", refused.problem
    except Denied as denied:
        return "denied", denied.denial, denied.row, denied.sets
    except DiskFull:
        return ("full",)
    except (DatabaseClosed, NoSavepoint, NoTransaction, PowerOff, TransactionOpen) as error:
        return (type(error).__name__,)


class DatabaseCase(unittest.TestCase):

    def new(self, *statements, sectors=60):
        self.disk = Disk(sectors)
        self.database = Database(self.disk)
        self.session = self.database.session()
        for statement in statements:
            self.session.run(statement)
        return self.session

    def base(self, *statements):
        return self.new(*BASE, *statements)

    def open(self):
        """Opens the disk again; power fails before, if it has not yet."""
        self.disk.power([])
        self.database = Database(self.disk)
        self.session = self.database.session()

    def items(self):
        """The items of the state now, told by a session."""
        session = self.database.session()
        items = session.run(("show",))
        for _, name, columns in [item for item in items if item[0] == "relation"]:
            terms = tuple(("variable", "x%d" % at) for at in range(columns))
            items += [("fact", name, row) for row in session.run(("ask", (("fact", name, terms),)))[1]]
        return plain.in_order(items)


class OpeningTest(DatabaseCase):

    def test_a_new_disk(self):
        disk = Disk(60)
        database = Database(disk)
        self.assertIs(disk.in_use, True)
        self.assertEqual((database.commits(), database.table()), (0, {}))
        self.assertIs(type(database.session()), Session)
        self.assertIs(type(database.watch("a")), Watch)

    def test_one_database_of_a_disk(self):
        self.base()
        before = self.disk.counts()
        for _ in range(2):
            with self.assertRaises(DatabaseOpen):
                Database(self.disk)
        self.assertEqual(self.disk.counts(), before)
        self.assertIs(self.disk.in_use, True)
        self.assertTrue(self.session.run(ONE))
        Database(Disk(60))

    def test_power_is_off(self):
        disk = Disk(60)
        disk.fail_after(0)
        with self.assertRaises(PowerOff):
            disk.sync()
        with self.assertRaises(PowerOff):
            Database(disk)
        self.assertIs(disk.in_use, False)
        self.assertEqual(disk.losses(), 1)
        disk.power([])
        Database(disk)

    def test_power_fails_in_the_opening(self):
        for sectors, at in ((60, 0), (60, 1), (60, 2), (61, 3)):
            disk = Disk(sectors)
            disk.fail_after(at)
            with self.assertRaises(PowerOff):
                Database(disk)
            self.assertIs(disk.in_use, False)
            with self.assertRaises(PowerOff):
                Database(disk)
            disk.power([])
            self.assertEqual(Database(disk).commits(), 0)
            self.assertIs(disk.in_use, True)

    def test_opened_again(self):
        session = self.base(ONE, DENY, rule("r", "p", (X,), fact("a", X)))
        before = self.items()
        self.open()
        self.assertEqual((self.database.commits(), self.items()), (5, before))
        self.assertEqual(result(session.run, ONE), ("DatabaseClosed",))
        self.assertIs(self.session.run(ONE), False)
        self.assertEqual(result(self.session.run, TWO)[0], "denied")


class ClosedTest(DatabaseCase):

    def check_closed(self, database, session, watch):
        for action in (database.session, database.commits, database.table, lambda: database.watch("a"),
                       lambda: session.run(ONE), lambda: session.run(("show",)), lambda: session.run(("drop", "c")),
                       session.begin, session.commit, session.rollback, lambda: session.savepoint("s"),
                       lambda: session.rollback_to("s"), watch.turn):
            self.assertEqual(result(action), ("DatabaseClosed",))

    def test_power_fails_outside_of_methods(self):
        for begins in (False, True):
            session = self.base()
            watch = self.database.watch("a")
            if begins:
                session.begin()
                session.run(ONE)
                session.savepoint("s")
            self.disk.fail_after(0)
            self.assertEqual(self.database.commits(), 2)
            with self.assertRaises(PowerOff):
                self.disk.sync()
            self.assertIs(self.disk.in_use, False)
            self.check_closed(self.database, session, watch)
            self.disk.power([])
            self.check_closed(self.database, session, watch)
            again = Database(self.disk)
            self.check_closed(self.database, session, watch)
            self.assertEqual(again.commits(), 2)

    def test_power_comes_back_at_once(self):
        session = self.base()
        watch = self.database.watch("a")
        self.disk.power([])
        self.assertIs(self.disk.in_use, False)
        self.check_closed(self.database, session, watch)

    def test_power_fails_in_a_statement(self):
        session = self.base()
        watch = self.database.watch("a")
        self.disk.fail_after(1)
        # What stores nothing makes no operation.
        self.assertIs(session.run(("remove", "a", (1,))), False)
        self.assertEqual(result(session.run, ONE), ("PowerOff",))
        self.assertIs(self.disk.in_use, False)
        self.check_closed(self.database, session, watch)

    def test_power_fails_in_a_commit(self):
        session = self.base()
        watch = self.database.watch("a")
        session.begin()
        session.run(ONE)
        self.disk.fail_after(0)
        self.assertEqual(result(session.commit), ("PowerOff",))
        self.check_closed(self.database, session, watch)
        self.disk.power([])
        self.check_closed(self.database, session, watch)


class StatementTest(DatabaseCase):

    def test_each_statement_that_changes_something_is_a_commit(self):
        session = self.new()
        for statement, answer, commits in (
                (BASE[0], None, 1), (ONE, True, 2), (ONE, False, 2), (ASK, (("x",), [(1,)]), 2), (TWO, True, 3),
                (("remove", "a", (3,)), False, 3), (("remove", "a", (1,)), True, 4), (("show",), BASE[:1], 4),
                (DENY, None, 5), (("allow", "d"), None, 6), (rule("r", "p", (X,), fact("a", X)), None, 7),
                (("why", "p", (2,)), [("a", (2,), None, ()), ("p", (2,), "r", (0,))], 7), (("strike", "r"), None, 8),
                (("wish", "a", (2,), False, [("a", (2,))]), [(("a", (2,)),)], 8), (("drop", "a"), None, 9)):
            self.assertEqual(repr(session.run(statement)), repr(answer))
            self.assertEqual(self.database.commits(), commits)
        self.assertEqual(self.items(), [])

    def test_refused_statements(self):
        session = self.base()
        before = self.disk.counts()
        for statement, problem in ((("add", "c", (1,)), ("no relation", "c")), (("drop", "c"), ("no relation", "c")),
                                   (("ask", (fact("a", X, X),)), ("width", "a")), (("strike", "r"), ("no rule", "r"))):
            self.assertEqual(result(session.run, statement), ("problem", problem))
        self.assertEqual((self.database.commits(), self.disk.counts()), (2, before))

    def test_denied_statements(self):
        session = self.base(ONE, DENY)
        before = self.disk.counts(), self.items()
        told = result(session.run, TWO)
        self.assertEqual(repr(told), repr(("denied", "d", (1, 2), [(("comes", fact("a", 2)),)])))
        self.assertIs(type(told[3]), list)
        new = ("deny", "c", (fact("a", X),))
        self.assertEqual(result(session.run, new), ("denied", "c", (1,), [(("comes", ("denial", *new[1:])),)]))
        self.assertEqual((self.disk.counts(), self.items()), before)
        self.assertEqual(self.database.commits(), 4)
        told[3].clear()
        self.assertEqual(result(session.run, TWO)[3], [(("comes", fact("a", 2)),)])

    def test_what_changes_nothing_is_not_denied(self):
        session = self.base(ONE, DENY)
        self.assertIs(session.run(ONE), False)
        self.assertEqual(session.run(ASK), (("x",), [(1,)]))

    def test_what_is_told_may_be_spoilt(self):
        session = self.base(ONE, rule("r", "p", (X,), fact("a", X)))
        candidates = [("a", (1,)), ("a", (2,))]
        statements = (ASK, ("show",), ("why", "p", (1,)), ("wish", "a", (2,), True, candidates))
        before = [repr(session.run(statement)) for statement in statements]
        for statement in statements:
            spoil(session.run(statement))
        spoil(self.database.watch("a").turn())
        table = self.database.table()
        spoil(tuple(table.values()))
        table.clear()
        self.assertEqual([repr(session.run(statement)) for statement in statements], before)
        self.assertEqual(self.database.table(), {"a": [((1,), 0)], "b": [], "p": [((1,), 1)]})


class TransactionTest(DatabaseCase):

    def test_errors_of_sessions(self):
        session = self.base()
        for action in (session.commit, session.rollback, lambda: session.savepoint("s"),
                       lambda: session.rollback_to("s")):
            self.assertEqual(result(action), ("NoTransaction",))
        self.assertIsNone(session.begin())
        self.assertEqual(result(session.begin), ("TransactionOpen",))
        self.assertEqual(result(session.rollback_to, "s"), ("NoSavepoint",))
        self.assertIsNone(session.savepoint("s"))
        self.assertIsNone(session.rollback_to("s"))
        self.assertIsNone(session.rollback())
        self.assertEqual(result(session.rollback_to, "s"), ("NoTransaction",))
        session.begin()
        self.assertEqual(result(session.rollback_to, "s"), ("NoSavepoint",))
        self.assertIsNone(session.commit())
        self.assertEqual(result(session.commit), ("NoTransaction",))

    def test_a_transaction_is_one_commit(self):
        session = self.base()
        other, before = self.database.session(), self.disk.counts()
        session.begin()
        for statement in (ONE, TWO, rule("r", "p", (X,), fact("a", X)), ("deny", "d", (fact("a", value(9)),))):
            session.run(statement)
        # Nobody else sees it yet, and nothing is written.
        self.assertEqual(other.run(ASK), (("x",), []))
        self.assertEqual((self.database.commits(), self.disk.counts()), (2, before))
        self.assertIsNone(session.commit())
        self.assertEqual((self.database.commits(), self.disk.counts()[1]), (3, before[1] + 1))
        self.assertEqual(other.run(ASK), (("x",), [(1,), (2,)]))
        self.assertIsNone(session.begin())

    def test_a_transaction_that_changes_nothing(self):
        session = self.base(ONE)
        before = self.disk.counts()
        for statements in ((), (ASK,), (TWO, ("remove", "a", (2,))), (ONE,), (("drop", "c"),),
                           (("remove", "a", (1,)), ONE)):
            session.begin()
            for statement in statements:
                result(session.run, statement)
            self.assertIsNone(session.commit())
            self.assertEqual((self.database.commits(), self.disk.counts()), (3, before))

    def test_a_rollback(self):
        session = self.base()
        session.begin()
        session.run(ONE)
        session.rollback()
        self.assertEqual(self.items(), BASE)
        self.assertIs(session.run(ONE), True)

    def test_savepoints(self):
        session = self.base()
        session.begin()
        session.run(ONE)
        session.savepoint("s")
        session.run(TWO)
        session.rollback_to("s")
        self.assertEqual(session.run(ASK), (("x",), [(1,)]))
        session.commit()
        self.assertEqual(self.items(), [BASE[0], BASE[1], fact("a", 1)])

    def test_statements_are_answered_on_the_state_now(self):
        session = self.base()
        other = self.database.session()
        session.begin()
        session.run(ONE)
        other.run(TWO)
        self.assertEqual(session.run(ASK), (("x",), [(1,), (2,)]))
        self.assertIsNone(session.commit())

    def test_a_commit_is_refused(self):
        session = self.base()
        other = self.database.session()
        for statements, between, told in (
                ((("show",), ASK), ONE, (1, ("answer", (("x",), [(1,)])))),
                ((("drop", "c"), TWO, ("add", "p", (1,))), rule("r", "p", (X,), fact("a", X)),
                 (2, ("problem", ("derived", "p")))),
                ((("add", "a", (5,)),), ("add", "a", (5,)), (0, ("answer", False))),
                ((("relation", "c", 1), ("relation", "c", 1)), ("relation", "c", 2),
                 (0, ("problem", ("exists", "relation", "c"))))):
            session.begin()
            for statement in statements:
                result(session.run, statement)
            other.run(between)
            before = self.database.commits(), self.items()
            self.assertEqual(repr(session.commit()), repr(told))
            self.assertEqual((self.database.commits(), self.items()), before)
            self.assertEqual(result(session.commit), ("NoTransaction",))

    def test_refused_comes_before_denied(self):
        session = self.base(DENY)
        other = self.database.session()
        session.begin()
        session.run(ASK)
        session.run(TWO)
        other.run(ONE)
        self.assertEqual(session.commit(), (0, ("answer", (("x",), [(1,)]))))

    def test_a_denied_commit_goes_on(self):
        session = self.base(ONE, DENY)
        session.begin()
        session.savepoint("s")
        session.run(TWO)
        session.run(("add", "b", (1, 1)))
        for _ in range(2):
            told = result(session.commit)
            self.assertEqual(told, ("denied", "d", (1, 2), [(("comes", fact("a", 2)),)]))
            told[3].clear()
        self.assertEqual(self.database.commits(), 4)
        session.run(("remove", "a", (1,)))
        self.assertIsNone(session.commit())
        self.assertEqual(self.database.commits(), 5)
        session.begin()
        session.savepoint("s")
        session.run(ONE)
        self.assertEqual(result(session.commit)[0], "denied")
        session.rollback_to("s")
        session.run(("add", "b", (1, 2)))
        self.assertIsNone(session.commit())
        self.assertEqual(self.items(), plain.in_order(BASE + [fact("a", 2), fact("b", 1, 1), fact("b", 1, 2),
                                                              ("denial", *DENY[1:])]))

    def test_what_clashes_in_between_is_not_denied(self):
        """Only the state that is made counts."""
        session = self.base(ONE, DENY)
        session.begin()
        session.run(TWO)
        session.run(("remove", "a", (1,)))
        self.assertIsNone(session.commit())

    def test_seven_changes_and_eight(self):
        session = self.base(("deny", "d", (fact("a", value(0)),)))
        for many, told in ((7, [(("comes", fact("a", 0)),)]), (8, None)):
            session.begin()
            for at in range(many):
                session.run(("add", "a", (at,)))
            self.assertEqual(result(session.commit), ("denied", "d", (), told))
            session.rollback()

    def test_candidates_are_copied(self):
        session = self.base()
        candidates = [("a", (1,)), ("a", (2,))]
        session.begin()
        told = session.run(("wish", "a", (1,), True, candidates))
        candidates[:] = [("c", ())]
        spoil(told)
        self.assertIsNone(session.commit())


class FullTest(DatabaseCase):

    def long(self, at, many=28):
        return "%02d" % at + "a" * many

    def fill(self):
        """Facts of long strings, until the next one does not fit."""
        session = self.base()
        session.begin()
        for at in range(42):
            session.run(("add", "a", (self.long(at),)))
        session.commit()
        return session

    def test_a_statement(self):
        session = self.fill()
        before = self.items(), self.disk.counts(), self.database.commits()
        self.assertEqual(result(session.run, ("add", "b", ("b" * 30, "b" * 30))), ("full",))
        self.assertEqual((self.items(), self.disk.counts(), self.database.commits()), before)
        self.assertIs(session.run(ONE), True)
        self.open()
        self.assertEqual(self.items(), plain.in_order(before[0] + [fact("a", 1)]))

    def test_a_transaction_ends(self):
        session = self.fill()
        before = self.items(), self.disk.counts(), self.database.commits()
        session.begin()
        self.assertIs(session.run(("add", "b", ("b" * 30, "b" * 30))), True)
        self.assertEqual(result(session.commit), ("full",))
        self.assertEqual((self.items(), self.disk.counts(), self.database.commits()), before)
        self.assertEqual(result(session.commit), ("NoTransaction",))
        self.assertIs(session.run(ONE), True)

    def test_denied_comes_before_full(self):
        session = self.fill()
        session.run(("deny", "d", (fact("b", X, X),)))
        added = ("add", "b", ("b" * 30, "b" * 30))
        self.assertEqual(result(session.run, added)[:3], ("denied", "d", ("b" * 30,)))
        session.begin()
        session.run(added)
        self.assertEqual(result(session.commit)[:3], ("denied", "d", ("b" * 30,)))
        session.rollback()
        self.assertEqual(result(session.run, ("add", "b", ("b" * 30, "c" * 30))), ("full",))

    def test_full_exactly_if_a_store_with_the_same_commits_is(self):
        for seed in range(12):
            chooser = random.Random(seed)
            sectors = chooser.choice((60, 61, 80))
            session, store = self.new(BASE[0], sectors=sectors), Store(Disk(sectors))
            store.commit([("comes", BASE[0])])
            told = collections.Counter()
            for at in range(300):
                row = ("%d" % at + chooser.choice("ab") * chooser.randrange(27),)
                changes = [("comes", ("fact", "a", row))]
                fits = store.fits(changes)
                self.assertEqual(result(session.run, ("add", "a", row)), ("answer", True) if fits else ("full",))
                if fits:
                    store.commit(changes)
                told[fits] += 1
                self.assertEqual(self.database.commits(), store.commits)
                if not fits and told[fits] > 5:
                    break
            self.assertEqual(self.items(), store.state.all_items())
            self.assertGreater(min(told[True], told[False]), 5)


class WatchTest(DatabaseCase):

    def turns(self, watch, came, went):
        told = watch.turn()
        self.assertIs(type(told), tuple)
        self.assertEqual(repr(told), repr((came, went)))

    def test_a_relation_of_the_base(self):
        session = self.base(ONE)
        watch = self.database.watch("a")
        self.turns(watch, [], [])
        for value_ in (3, 2, "b", 10):
            session.run(("add", "a", (value_,)))
        session.run(("remove", "a", (1,)))
        self.turns(watch, [(2,), (3,), (10,), ("b",)], [(1,)])
        self.turns(watch, [], [])
        session.run(("add", "a", (4,)))
        session.run(("remove", "a", (4,)))
        self.turns(watch, [], [])

    def test_a_derived_relation(self):
        session = self.base(rule("r", "p", (X, Y), fact("b", X, Y)),
                            rule("s", "p", (X, Z), fact("p", X, Y), fact("b", Y, Z)))
        watch = self.database.watch("p")
        session.run(("add", "b", (2, 3)))
        session.run(("add", "b", (1, 2)))
        self.turns(watch, [(1, 2), (1, 3), (2, 3)], [])
        session.run(("remove", "b", (2, 3)))
        self.turns(watch, [], [(1, 3), (2, 3)])

    def test_a_relation_that_comes_and_goes(self):
        session = self.new()
        watch = self.database.watch("a")
        self.turns(watch, [], [])
        session.run(BASE[0])
        self.turns(watch, [], [])
        session.run(ONE)
        self.turns(watch, [(1,)], [])
        session.run(("drop", "a"))
        self.turns(watch, [], [(1,)])
        session.run(("relation", "a", 2))
        session.run(("add", "a", (1, 1)))
        self.turns(watch, [(1, 1)], [])
        session.run(("drop", "a"))
        session.run(rule("r", "a", (value(1),)))
        self.turns(watch, [(1,)], [(1, 1)])

    def test_open_transactions_are_not_seen(self):
        session = self.base()
        watch = self.database.watch("a")
        session.begin()
        session.run(ONE)
        self.turns(watch, [], [])
        session.commit()
        self.turns(watch, [(1,)], [])

    def test_each_watch_has_its_own_turns(self):
        session = self.base()
        first = self.database.watch("a")
        session.run(ONE)
        second = self.database.watch("a")
        session.run(TWO)
        self.turns(second, [(2,)], [])
        self.turns(first, [(1,), (2,)], [])
        spoil(first.turn())
        self.turns(first, [], [])

    def test_the_table(self):
        session = self.base(("add", "b", (1, 2)), ("add", "b", (2, 3)), rule("r", "p", (X, Y), fact("b", X, Y)),
                            rule("s", "p", (X, Z), fact("p", X, Y), fact("b", Y, Z)))
        self.assertEqual(self.database.table(), {"a": [], "b": [((1, 2), 0), ((2, 3), 0)],
                                                 "p": [((1, 2), 1), ((1, 3), 2), ((2, 3), 1)]})
        session.begin()
        session.run(("drop", "a"))
        self.assertIn("a", self.database.table())


class ManyTest(DatabaseCase):
    """Sessions in any order, beside the plain version."""

    def start(self, chooser, sectors):
        self.chooser = chooser
        self.new(sectors=sectors)
        self.plain = PlainDatabase(sectors)
        self.pairs = [(self.database.session(), PlainSession(self.plain)) for _ in range(3)]
        self.watches = []

    def both(self, pair, method, *args):
        """Does the same to both of a pair, and fails unless both are told the same."""
        expected = getattr(pair[1], method)(*copy.deepcopy(args))
        told = result(getattr(pair[0], method), *args)
        self.assertEqual(repr(told), repr(expected), (method, args))
        spoil(told)
        spoil(args)
        return expected

    def step(self):
        pair = self.chooser.choice(self.pairs)
        form = self.chooser.random()
        if form < 0.07:
            return self.both(pair, "begin")
        if form < 0.14:
            return self.both(pair, "commit")
        if form < 0.16:
            return self.both(pair, "rollback")
        if form < 0.23:
            return self.both(pair, self.chooser.choice(("savepoint", "rollback_to")), self.chooser.choice("stu"))
        if form < 0.26:
            relation = self.chooser.choice(("a", "b", "p", "q", "none"))
            self.watches.append((self.database.watch(relation), PlainWatch(self.plain, relation)))
        if form < 0.33 and self.watches:
            return self.both(self.chooser.choice(self.watches), "turn")
        return self.both(pair, "run", some_statement(self.chooser, pair[1].own(), 0.07, self.forms))

    def check_state(self):
        self.assertEqual(self.database.commits(), self.plain.commits)
        table = self.database.table()
        self.assertEqual(table, plain_rules.table(self.plain.items, plain_rules.model(self.plain.items)))
        self.assertTrue(accepts(State(self.plain.items), table))
        self.assertEqual(self.items(), self.plain.items)
        self.assertIsNone(plain_rules.clash(self.plain.items))
        self.assertTrue(plain_rules.is_sound(self.plain.items))

    def check_order(self):
        """Each committed transaction was told what it is told when it is run alone in its place."""
        told, items = self.plain.serial()
        self.assertEqual(repr(told), repr([one for _, one in self.plain.history]))
        self.assertEqual(items, self.plain.items)
        self.assertEqual(len(self.plain.history), self.plain.commits)

    def reopen(self):
        self.open()
        self.pairs = [(self.database.session(), PlainSession(self.plain)) for _ in range(3)]
        self.watches = []

    def test_sessions_in_any_order(self):
        told = collections.Counter()
        # More denials, so that some commits are denied.
        self.forms = FORMS + ("deny",) * 8 + ("add",) * 6 + ("ask",) * 4
        for seed in range(70):
            self.start(random.Random(seed), random.Random(seed).choice((60, 100, 400)))
            for _ in range(70):
                expected = self.step()
                told[expected[0]] += 1
                told["refused"] += self.is_refusal(expected)
                if self.chooser.random() < 0.1:
                    self.check_state()
            self.check_order()
            self.reopen()
            self.check_state()
            told["commits"] += self.plain.commits
        self.assertGreater(told["commits"], 700)
        for kind in ("answer", "problem", "denied", "refused", "TransactionOpen", "NoTransaction", "NoSavepoint"):
            self.assertGreater(told[kind], 20, (kind, told))

    def is_refusal(self, expected):
        """True for what a commit tells that is refused."""
        return expected[0] == "answer" and isinstance(expected[1], tuple) and expected[1][0] in range(99)

    def crash(self):
        """Power fails at one of the next operations of a statement or a commit."""
        pair = self.chooser.choice(self.pairs)
        method, args = "commit", ()
        if pair[1].words is None:
            method, args = "run", (some_statement(self.chooser, self.plain.items, 0.05, self.forms),)
        before = copy.deepcopy(self.plain)
        self.disk.fail_after(self.chooser.choice((0, 0, 1, 1, 2, 3, 10)))
        expected = getattr(pair[1], method)(*copy.deepcopy(args))
        told = result(getattr(pair[0], method), *args)
        if told != ("PowerOff",):
            self.assertEqual(repr(told), repr(expected))
            self.disk.power([])
            return self.reopened(self.plain, self.plain)
        self.assertGreater(self.plain.commits, before.commits)
        for session, _ in self.pairs:
            self.assertEqual(result(session.run, ("show",)), ("DatabaseClosed",))
            self.assertEqual(result(session.commit), ("DatabaseClosed",))
        self.disk.power([self.chooser.random() < 0.6 for _ in range(self.disk.pending())])
        return self.reopened(before, self.plain)

    def reopened(self, before, after):
        """True if the disk, opened again, has the commit in which power failed."""
        if self.chooser.random() < 0.3:
            self.disk.fail_after(self.chooser.randrange(6))
            result(Database, self.disk)
            self.disk.power([self.chooser.random() < 0.6 for _ in range(self.disk.pending())])
        self.disk.power([])
        self.database = Database(self.disk)
        self.plain = after if self.database.commits() == after.commits else before
        self.pairs = [(self.database.session(), PlainSession(self.plain)) for _ in range(3)]
        self.watches = []
        self.check_state()
        self.check_order()
        return self.plain is after

    def test_power_fails_in_statements_and_commits(self):
        told = collections.Counter()
        self.forms = FORMS
        for seed in range(40):
            self.start(random.Random(seed), random.Random(seed).choice((60, 61, 90)))
            for _ in range(12):
                for _ in range(self.chooser.randrange(10)):
                    self.step()
                told[self.crash()] += 1
        self.assertGreater(min(told[True], told[False]), 40, told)

    def test_many_statements_and_openings_are_quick(self):
        start = time.process_time()
        session = self.new(*BASE, rule("r", "p", (X, Y), fact("b", X, Y)),
                           rule("s", "p", (X, Z), fact("p", X, Y), fact("b", Y, Z)),
                           ("deny", "d", (fact("p", X, X),)), sectors=400)
        for at in range(300):
            session.run(("add", "b", (at, at + 1 if at % 10 else "end")))
        for at in range(100):
            self.open()
            self.session.begin()
            self.session.run(("add", "a", (at,)))
            self.session.run(("ask", (fact("p", value(1), X), ("not", "a", (X,)))))
            self.session.commit()
        self.assertEqual(self.database.commits(), 405)
        self.assertEqual(self.session.run(("ask", (("count", "n", "a", (ANY,)),))), (("n",), [(100,)]))
        self.assertLess(time.process_time() - start, 60)


if __name__ == "__main__":
    unittest.main()

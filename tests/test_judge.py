import collections
import copy
import random
import unittest

from rulestead.judge import accepts, is_account, why
from rulestead.model import heights
from rulestead.states import State
from tests import plain_rules
from tests.chance import ANY, W, X, Y, Z, some_paths, some_state

RULES = [("rule", "a", "p", (X, Y), (("fact", "e", (X, Y)),)),
         ("rule", "b", "p", (X, Z), (("fact", "p", (X, Y)), ("fact", "e", (Y, Z))))]
PATH = [("relation", "e", 2), ("relation", "none", 1), ("fact", "e", (1, 2)), ("fact", "e", (2, 3))] + RULES
TABLE = {"e": [((1, 2), 0), ((2, 3), 0)], "none": [], "p": [((1, 2), 1), ((1, 3), 2), ((2, 3), 1)]}
CIRCLE = PATH + [("fact", "e", (3, 1)), ("relation", "n", 1),
                 ("rule", "c", "q", (X,), (("fact", "p", (X, Y)), ("not", "e", (X, Y)))),
                 ("rule", "d", "r", (X, W), (("fact", "n", (X,)), ("count", "w", "q", (ANY,)))),
                 ("rule", "e", "s", (W,), (("count", "w", "p", (X, X)), ("not", "none", (ANY,)))),
                 ("fact", "n", ("k",))]
LOOSE = (None, True, False, 0, 1, -1, 1.5, "", "a", (), ((1, 2), 0), [], [1], {}, {1: 2}, {"e": []}, b"a")


def changed(table, name, rows):
    return {**table, name: rows}


def rows_of(table):
    return {name: [pair[0] for pair in table[name]] for name in table}


class JudgeCase(unittest.TestCase):

    def judge(self, items, table):
        """What the judge says; the plain one must say the same."""
        state, before = State(items), copy.deepcopy(table)
        kept = copy.deepcopy((state.relations, state.facts, state.rules, state.denials))
        told = accepts(state, table)
        self.assertIs(type(told), bool)
        self.assertIs(told, plain_rules.accepts(items, table), (items, table))
        self.assertEqual(repr(table), repr(before))
        self.assertEqual((state.relations, state.facts, state.rules, state.denials), kept)
        return told


class AcceptsTest(JudgeCase):

    def test_the_table_of_heights(self):
        for items in ([], PATH[:2], PATH, CIRCLE):
            self.assertTrue(self.judge(items, heights(State(items))))
        self.assertTrue(self.judge(PATH, TABLE))

    def test_greater_heights(self):
        for rows, holds in (([((1, 2), 1), ((1, 3), 9), ((2, 3), 5)], True),
                            ([((1, 2), 1), ((1, 3), 2), ((2, 3), 10 ** 40)], True),
                            ([((1, 2), 7), ((1, 3), 8), ((2, 3), 1)], True),
                            ([((1, 2), 7), ((1, 3), 7), ((2, 3), 1)], False),
                            ([((1, 2), 7), ((1, 3), 2), ((2, 3), 1)], False),
                            ([((1, 2), 1), ((1, 3), 1), ((2, 3), 1)], False),
                            ([((1, 2), 0), ((1, 3), 2), ((2, 3), 1)], False),
                            ([((1, 2), 1), ((1, 3), 2), ((2, 3), -1)], False)):
            self.assertIs(self.judge(PATH, changed(TABLE, "p", rows)), holds, rows)

    def test_facts_of_the_state_have_the_height_0(self):
        self.assertFalse(self.judge(PATH, changed(TABLE, "e", [((1, 2), 0), ((2, 3), 1)])))
        self.assertFalse(self.judge(PATH, changed(TABLE, "e", [((1, 2), 0)])))
        self.assertFalse(self.judge(PATH, changed(TABLE, "e", [])))
        self.assertFalse(self.judge(PATH, changed(TABLE, "none", [((1,), 0)])))
        self.assertFalse(self.judge(PATH, changed(TABLE, "none", [((1,), 1)])))

    def test_rows_that_hold_each_other_up(self):
        """A circle of rows that follow from each other needs a beginning."""
        items = [("relation", "none", 1), ("rule", "a", "p", (X,), (("fact", "q", (X,)),)),
                 ("rule", "b", "q", (X,), (("fact", "p", (X,)),))]
        self.assertTrue(self.judge(items, {"none": [], "p": [], "q": []}))
        for one, other in ((1, 1), (1, 2), (2, 1), (0, 1), (0, 0)):
            self.assertFalse(self.judge(items, {"none": [], "p": [((1,), one)], "q": [((1,), other)]}))

    def test_rows_without_facts(self):
        items = [("relation", "e", 1), ("rule", "a", "p", (("value", 1),), ()),
                 ("rule", "b", "q", (W,), (("count", "w", "p", (ANY,)),))]
        for height, holds in ((0, False), (1, True), (2, True), (-1, False)):
            self.assertIs(self.judge(items, {"e": [], "p": [((1,), height)], "q": [((1,), 1)]}), holds)
            self.assertIs(self.judge(items, {"e": [], "p": [((1,), 1)], "q": [((1,), height)]}), holds)
        self.assertFalse(self.judge(items, {"e": [], "p": [], "q": [((0,), 1)]}))
        self.assertFalse(self.judge(items, {"e": [], "p": [((1,), 1)], "q": [((0,), 1)]}))

    def test_the_order_of_rows(self):
        rows = TABLE["p"]
        self.assertFalse(self.judge(PATH, changed(TABLE, "p", rows[::-1])))
        self.assertFalse(self.judge(PATH, changed(TABLE, "p", [rows[1], rows[0], rows[2]])))
        for at in range(3):
            self.assertFalse(self.judge(PATH, changed(TABLE, "p", rows[:at] + rows[at + 1:])))
            self.assertFalse(self.judge(PATH, changed(TABLE, "p", rows[:at] + [rows[at]] + rows[at:])))
            again = (rows[at][0], rows[at][1] + 1)
            self.assertFalse(self.judge(PATH, changed(TABLE, "p", rows[:at + 1] + [again] + rows[at + 1:])))
        items = [("relation", "e", 1)] + [("fact", "e", (value,)) for value in (10, 9, "1", "")]
        right = [((9,), 0), ((10,), 0), (("",), 0), (("1",), 0)]
        self.assertTrue(self.judge(items, {"e": right}))
        self.assertFalse(self.judge(items, {"e": right[2:] + right[:2]}))
        self.assertFalse(self.judge(items, {"e": [right[1], right[0]] + right[2:]}))

    def test_the_order_of_relations_does_not_matter(self):
        self.assertTrue(self.judge(PATH, {name: TABLE[name] for name in ("p", "none", "e")}))

    def test_relations(self):
        for name in TABLE:
            self.assertFalse(self.judge(PATH, {other: TABLE[other] for other in TABLE if other != name}))
            self.assertFalse(self.judge(PATH, {{name: "x"}.get(other, other): TABLE[other] for other in TABLE}))
            self.assertFalse(self.judge(PATH, {{name: 1}.get(other, other): TABLE[other] for other in TABLE}))
        self.assertFalse(self.judge(PATH, {**TABLE, "x": []}))
        self.assertFalse(self.judge(PATH, {**TABLE, None: []}))
        self.assertFalse(self.judge(PATH, {**TABLE, ("e",): []}))
        self.assertFalse(self.judge([], {"e": []}))

    def test_what_is_no_table(self):
        for loose in LOOSE:
            self.assertFalse(accepts(State(PATH), loose))
            for name in TABLE:
                if (name, loose) != ("none", []):
                    self.assertFalse(self.judge(PATH, changed(TABLE, name, loose)))
                self.assertFalse(self.judge(PATH, changed(TABLE, name, TABLE[name] + [loose])))
                self.assertFalse(self.judge(PATH, changed(TABLE, name, [loose] + TABLE[name])))
            holds = loose == 1 and loose is not True
            self.assertIs(self.judge(PATH, changed(TABLE, "p", TABLE["p"][:2] + [((2, 3), loose)])), holds)
            self.assertFalse(self.judge(PATH, changed(TABLE, "p", TABLE["p"][:2] + [(loose, 1)])))
            self.assertFalse(self.judge(PATH, changed(TABLE, "p", TABLE["p"][:2] + [((2, loose), 1)])))
            holds = loose == 0 and loose is not False
            self.assertIs(self.judge(PATH, changed(TABLE, "e", [((1, 2), loose), ((2, 3), 0)])), holds)
        endless = []
        endless.append(endless)
        self.assertIs(accepts(State(PATH), endless), False)
        self.assertIs(accepts(State(PATH), changed(TABLE, "p", endless)), False)
        self.assertIs(accepts(State([]), {}), True)
        self.assertIs(accepts(State([]), []), False)
        self.assertIs(accepts(State([]), None), False)

    def test_lists_in_the_place_of_tuples_and_tuples_in_the_place_of_lists(self):
        for rows in ([[(1, 2), 0], ((2, 3), 0)], [([1, 2], 0), ((2, 3), 0)], (((1, 2), 0), ((2, 3), 0)),
                     {(1, 2): 0, (2, 3): 0}, [((1, 2), 0, 0), ((2, 3), 0)], [((1, 2),), ((2, 3), 0)],
                     [((1, [2]), 0), ((2, 3), 0)]):
            self.assertFalse(self.judge(PATH, changed(TABLE, "e", rows)))

    def test_booleans_and_other_numbers(self):
        for rows in ([((True, 2), 0), ((2, 3), 0)], [((1, 2), False), ((2, 3), 0)], [((1.0, 2), 0), ((2, 3), 0)],
                     [((1, 2), 0.0), ((2, 3), 0)], [((1, 2), "0"), ((2, 3), 0)], [((1, 2), None), ((2, 3), 0)]):
            self.assertFalse(self.judge(PATH, changed(TABLE, "e", rows)))
        for rows in ([((True, 2), 1)], [((1, 2), True)], [((1, 2), 1.0)], [((1, 2.0), 1)]):
            self.assertFalse(self.judge(PATH, changed(TABLE, "p", rows + TABLE["p"][1:])))

    def test_widths(self):
        for row in ((), (1,), (1, 2, 3)):
            self.assertFalse(self.judge(PATH, changed(TABLE, "e", [(row, 0), ((2, 3), 0)])))
            self.assertFalse(self.judge(PATH, changed(TABLE, "p", TABLE["p"] + [(row, 1)])))

    def test_states_whose_facts_do_not_fit(self):
        table = heights(State(PATH))
        for fact in (("fact", "x", (1,)), ("fact", "e", (9,)), ("fact", "e", (1, 2, 3)), ("fact", "p", (7, 7))):
            self.assertFalse(self.judge(PATH + [fact], table))
        self.assertFalse(self.judge(PATH + [("fact", "e", (9,))], changed(table, "e", table["e"] + [((9,), 0)])))

    def test_not_and_count_are_looked_up_in_the_table(self):
        table = heights(State(CIRCLE))
        self.assertEqual(rows_of(table)["q"], [(1,), (2,), (3,)])
        self.assertEqual((table["r"], table["s"]), ([(("k", 3), 1)], [((3,), 1)]))
        self.assertTrue(self.judge(CIRCLE, table))
        self.assertFalse(self.judge(CIRCLE, changed(table, "r", [(("k", 2), 1)])))
        self.assertFalse(self.judge(CIRCLE, changed(table, "s", [((2,), 1)])))
        self.assertFalse(self.judge(CIRCLE, changed(table, "q", table["q"][1:])))

    def test_great_values(self):
        great = 10 ** 30 - 1
        items = [("relation", "e", 1), ("fact", "e", (great,)),
                 ("rule", "a", "p", (Y,), (("fact", "e", (X,)), ("is", "y", "*", X, X)))]
        self.assertTrue(self.judge(items, {"e": [((great,), 0)], "p": [((great ** 2,), 1)]}))
        self.assertFalse(self.judge(items, {"e": [((great,), 0)], "p": [((great ** 2 + 1,), 1)]}))

    def mutations(self, chooser, table):
        """Tables with something else in one place, of which some may be accepted."""
        name = chooser.choice(sorted(table))
        rows = table[name]
        at = chooser.randrange(len(rows) + 1)
        if at == len(rows):
            row = chooser.choice([pair[0] for other in table.values() for pair in other] or [(1,)])
            yield changed(table, name, sorted(rows + [(row, 1)], key=repr))
            yield changed(table, name, rows + [(row, chooser.randrange(3))])
            return
        row, height = rows[at]
        value = chooser.randrange(len(row))
        for other in (height + 1, height - 1, height + 3, 0, True, str(height), None):
            yield changed(table, name, rows[:at] + [(row, other)] + rows[at + 1:])
        for other in (0, 1, 5, "a", True, "1"):
            new = row[:value] + (other,) + row[value + 1:]
            yield changed(table, name, rows[:at] + [(new, height)] + rows[at + 1:])
        for new in (list(row), row + (1,), row[1:]):
            yield changed(table, name, rows[:at] + [(new, height)] + rows[at + 1:])
        yield changed(table, name, rows[:at] + [[row, height]] + rows[at + 1:])
        yield changed(table, name, rows[:at] + rows[at + 1:])
        yield changed(table, name, rows[:at] + [rows[at]] + rows[at:])
        yield changed(table, name, rows[:at] + rows[at + 1:] + [rows[at]])

    def raised(self, chooser, table):
        """A table with heights that are greater, some of them too much or too little."""
        return {name: [(row, height and height + chooser.choice((0, 0, 0, 1, 2, 5))) for row, height in table[name]]
                for name in table}

    def test_random_tables(self):
        told = collections.Counter()
        for seed in range(80):
            chooser = random.Random(seed)
            items = some_paths(chooser) if seed % 4 == 0 else some_state(chooser)
            table = heights(State(items))
            self.assertTrue(self.judge(items, table))
            for _ in range(3):
                for other in self.mutations(chooser, table):
                    told[self.judge(items, other)] += 1
                told["raised", self.judge(items, self.raised(chooser, table))] += 1
            scaled = {name: [(row, 3 * height) for row, height in table[name]] for name in table}
            self.assertTrue(self.judge(items, scaled))
        self.assertGreater(told[False], 2000)
        self.assertGreater(told[True], 50)
        self.assertGreater(told["raised", False], 15)
        self.assertGreater(told["raised", True], 50)

    def test_only_the_facts_of_the_model_are_accepted(self):
        """Tables of all sets of rows, with all heights up to 2."""
        items = [("relation", "e", 1), ("fact", "e", (1,)), ("rule", "a", "p", (X,), (("fact", "e", (X,)),)),
                 ("rule", "b", "p", (X,), (("fact", "q", (X,)),)), ("rule", "c", "q", (X,), (("fact", "p", (X,)),)),
                 ("rule", "d", "r", (X,), (("fact", "e", (X,)), ("not", "q", (X,))))]
        parts = [[]] + [[((1,), height)] for height in range(3)]
        parts += [[((1,), one), ((2,), two)] for one in range(3) for two in range(3)]
        accepted = []
        for one in parts:
            for two in parts:
                for three in parts[:4]:
                    table = {"e": [((1,), 0)], "p": one, "q": two, "r": three}
                    if self.judge(items, table):
                        accepted.append(table)
        self.assertEqual(accepted, [heights(State(items))])


class AccountCase(unittest.TestCase):

    def check_account(self, items, steps, table=None):
        """What is_account says; the plain version must say the same."""
        state = State(items)
        table = heights(state) if table is None else table
        before = copy.deepcopy((steps, table, state.all_items()))
        told = is_account(state, table, steps)
        self.assertIs(type(told), bool)
        self.assertIs(told, plain_rules.is_account(items, rows_of(table), steps), (items, steps))
        self.assertEqual((steps, table, state.all_items()), before)
        return told


class WhyTest(AccountCase):

    def check(self, items, relation, row, expected):
        state = State(items)
        before = state.all_items()
        told = why(state, relation, row)
        self.assertEqual(told, expected)
        self.assertEqual(told, plain_rules.why(items, heights(state), relation, row))
        self.assertEqual(state.all_items(), before)
        if told is not None:
            self.assertIs(type(told), list)
            self.assertTrue(self.check_account(items, told))

    def test_a_fact_of_the_state(self):
        self.check(PATH, "e", (1, 2), [("e", (1, 2), None, ())])

    def test_the_example_of_the_document(self):
        self.check(PATH, "p", (1, 3), [
            ("e", (1, 2), None, ()), ("p", (1, 2), "a", (0,)), ("e", (2, 3), None, ()), ("p", (1, 3), "b", (1, 2))])

    def test_what_is_not_in_the_model(self):
        for relation, row in (("e", (1, 3)), ("e", (1,)), ("e", ()), ("e", (1, 2, 3)), ("p", (3, 1)), ("p", ("1", 2)),
                              ("none", (1,)), ("x", (1,)), ("a", (1, 2)), ("", ())):
            self.check(PATH, relation, row, None)
        self.check([], "e", (1,), None)

    def test_a_rule_without_facts(self):
        items = [("relation", "e", 1), ("rule", "b", "p", (W,), (("count", "w", "e", (ANY,)),)),
                 ("rule", "a", "q", (X,), (("fact", "p", (X,)), ("fact", "p", (X,))))]
        self.check(items, "p", (0,), [("p", (0,), "b", ())])
        self.check(items, "q", (0,), [("p", (0,), "b", ()), ("q", (0,), "a", (0, 0))])

    def test_the_first_rule_by_name(self):
        items = [("relation", "e", 1), ("fact", "e", (1,)), ("rule", "c", "p", (X,), (("fact", "e", (X,)),)),
                 ("rule", "b", "p", (("value", 1),), ()), ("rule", "b2", "p", (("value", 1),), ())]
        self.check(items, "p", (1,), [("p", (1,), "b", ())])
        del items[3]
        self.check(items, "p", (1,), [("p", (1,), "b2", ())])
        del items[3]
        self.check(items, "p", (1,), [("e", (1,), None, ()), ("p", (1,), "c", (0,))])

    def test_only_facts_of_lesser_heights(self):
        """The first rule by name gives the fact, but from facts that are not below it."""
        items = [("relation", "e", 1), ("fact", "e", (1,)), ("rule", "a", "p", (X,), (("fact", "q", (X,)),)),
                 ("rule", "b", "q", (X,), (("fact", "p", (X,)),)), ("rule", "z", "p", (X,), (("fact", "e", (X,)),))]
        self.check(items, "q", (1,), [("e", (1,), None, ()), ("p", (1,), "z", (0,)), ("q", (1,), "b", (1,))])
        self.check(items, "p", (1,), [("e", (1,), None, ()), ("p", (1,), "z", (0,))])

    def test_the_first_way(self):
        items = [("relation", "e", 2)] + [("fact", "e", row) for row in ((1, "b"), (1, 5), ("a", 1), (2, 1))]
        items += [("rule", "r", "p", (X,), (("fact", "e", (X, Y)), ("fact", "e", (Z, X))))]
        self.check(items, "p", (1,), [("e", (1, 5), None, ()), ("e", (2, 1), None, ()), ("p", (1,), "r", (0, 1))])

    def test_the_first_way_may_have_greater_facts_than_another_one(self):
        """The order of rows counts, not how high the facts are, as long as they are below."""
        items = [("relation", "e", 2), ("relation", "n", 1), ("fact", "n", (5,)),
                 ("fact", "e", (5, 6)), ("fact", "e", (6, 4)), ("fact", "e", (5, 9)),
                 ("rule", "a", "p", (X,), (("fact", "n", (X,)),)),
                 ("rule", "b", "p", (Y,), (("fact", "p", (X,)), ("fact", "e", (X, Y)))),
                 ("rule", "c", "q", (("value", 0),), (("fact", "p", (X,)), ("fact", "p", (("value", 4),)))),
                 ("rule", "d", "q", (("value", 0),), (("fact", "p", (("value", 4),)), ("fact", "p", (ANY,))))]
        self.check(items, "q", (0,), [
            ("n", (5,), None, ()), ("p", (5,), "a", (0,)), ("e", (5, 6), None, ()), ("p", (6,), "b", (1, 2)),
            ("e", (6, 4), None, ()), ("p", (4,), "b", (3, 4)), ("q", (0,), "c", (5, 5))])

    def test_the_first_way_with_facts_of_lesser_heights(self):
        """The first row in order is as high as the fact, so the way with the next one counts."""
        items = [("relation", "e", 1), ("fact", "e", (1,)), ("fact", "e", (2,)),
                 ("rule", "a", "q", (X,), (("fact", "e", (X,)),)),
                 ("rule", "b", "p", (("value", 1),), (("fact", "q", (("value", 1),)),)),
                 ("rule", "c", "p", (("value", 2),), (("fact", "e", (("value", 2),)),)),
                 ("rule", "d", "r", (("value", 0),), (("fact", "p", (X,)),))]
        self.assertEqual(heights(State(items))["r"], [((0,), 2)])
        self.check(items, "r", (0,), [("e", (2,), None, ()), ("p", (2,), "c", (0,)), ("r", (0,), "d", (1,))])

    def test_accounts_of_accounts(self):
        items = [("relation", "e", 1), ("fact", "e", (1,)), ("fact", "e", (2,)),
                 ("rule", "a", "p", (X,), (("fact", "e", (X,)),)),
                 ("rule", "b", "q", (X, Y), (("fact", "p", (X,)), ("fact", "p", (Y,)), ("fact", "e", (X,)))),
                 ("rule", "c", "r", (X, Y), (("fact", "e", (Y,)), ("fact", "q", (X, Y)), ("fact", "p", (X,)),
                                             ("not", "p", (("value", 3),))))]
        self.check(items, "r", (1, 2), [
            ("e", (2,), None, ()), ("e", (1,), None, ()), ("p", (1,), "a", (1,)), ("p", (2,), "a", (0,)),
            ("q", (1, 2), "b", (2, 3, 1)), ("r", (1, 2), "c", (0, 4, 2))])

    def test_a_long_account(self):
        items = [("relation", "e", 2)] + [("fact", "e", (at, at + 1)) for at in range(700)]
        items += [("rule", "a", "p", (("value", 0),), ()),
                  ("rule", "b", "p", (Y,), (("fact", "p", (X,)), ("fact", "e", (X, Y))))]
        told = why(State(items), "p", (700,))
        self.assertEqual(len(told), 1401)
        self.assertEqual(told[-1], ("p", (700,), "b", (1398, 1399)))
        self.assertIs(is_account(State(items), heights(State(items)), told), True)

    def test_a_new_list_each_time(self):
        state = State(PATH)
        why(state, "p", (1, 3)).clear()
        self.assertEqual(len(why(state, "p", (1, 3))), 4)

    def test_random_states(self):
        lengths = collections.Counter()
        for seed in range(90):
            chooser = random.Random(seed)
            items = some_paths(chooser) if seed % 3 == 0 else some_state(chooser)
            state = State(items)
            table = heights(state)
            facts = [(name, pair[0]) for name in table for pair in table[name]]
            for relation, row in chooser.sample(facts, min(len(facts), 8)):
                told = why(state, relation, row)
                self.assertEqual(told, plain_rules.why(items, table, relation, row), (items, relation, row))
                self.assertTrue(self.check_account(items, told, table))
                lengths[len(told)] += 1
            for relation in table:
                row = tuple(chooser.randrange(4) for _ in range(plain_rules.widths(items)[relation]))
                if (relation, row) not in facts:
                    self.assertIsNone(why(state, relation, row))
        self.assertGreater(lengths[1], 100)
        self.assertGreater(sum(lengths[many] for many in lengths if many > 3), 40)
        self.assertGreater(max(lengths), 8)


class IsAccountTest(AccountCase):
    STEPS = [("e", (1, 2), None, ()), ("p", (1, 2), "a", (0,)), ("e", (2, 3), None, ()), ("p", (1, 3), "b", (1, 2))]

    def test_what_is_an_account(self):
        one, two, three, four = self.STEPS
        for steps in ([one], [one, two], self.STEPS, [three, one], [one, three, ("p", (1, 2), "a", (0,))],
                      [three, one, ("p", (1, 2), "a", (1,)), ("p", (1, 3), "b", (2, 0))],
                      self.STEPS + [("p", (2, 3), "a", (2,))]):
            self.assertTrue(self.check_account(PATH, steps), steps)

    def test_what_is_none(self):
        one, two, three, four = self.STEPS
        for steps in ([], [two], [two, one], [one, one], [one, two, two], [one, two, four], [four, one, two, three],
                      [("e", (1, 3), None, ())], [("p", (1, 2), None, ())], [("e", (1, 2), "a", ())],
                      [("e", (1, 2), None, (0,))], [one, ("p", (1, 2), "b", (0,))], [one, ("p", (1, 2), "c", (0,))],
                      [one, ("p", (1, 2), "a", ())], [one, ("p", (1, 2), "a", (1,))], [one, ("p", (1, 2), "a", (-1,))],
                      [one, ("p", (1, 2), "a", (0, 0))], [one, ("p", (2, 1), "a", (0,))], [one, ("q", (1, 2), "a", (0,))],
                      [one, three, ("p", (1, 2), "a", (1,))], [one, ("p", (1, 2), "a", (5,))],
                      [one, ("p", (1, 2, 3), "a", (0,))], [one, ("p", (1,), "a", (0,))], [one, ("p", (), "a", (0,))],
                      [one, two, three, ("p", (1, 3), "b", (2, 1))], [one, two, three, ("p", (1, 3), "b", (0, 2))],
                      [one, ("p", (1, 2), "a", (0,)), ("e", (1, 2), None, ())]):
            self.assertFalse(self.check_account(PATH, steps), steps)

    def test_a_row_of_another_kind(self):
        one = self.STEPS[0]
        self.assertIs(is_account(State(PATH), TABLE, [("e", (True, 2), None, ())]), False)
        self.assertIs(is_account(State(PATH), TABLE, [one, ("p", (1, 2.0), "a", (0,))]), False)
        self.assertIs(is_account(State(PATH), TABLE, [one, ("p", (1, 2), "a", (False,))]), False)
        self.assertIs(is_account(State(PATH), TABLE, [("e", ("1", 2), None, ())]), False)

    def test_not_and_count_are_looked_up_in_the_table(self):
        items = [("relation", "e", 1), ("relation", "f", 1), ("fact", "e", (1,)), ("fact", "e", (2,)),
                 ("fact", "f", (2,)),
                 ("rule", "a", "p", (X,), (("fact", "e", (X,)), ("not", "f", (X,)))),
                 ("rule", "b", "q", (X, W), (("fact", "f", (X,)), ("count", "w", "p", (ANY,)))),
                 ("rule", "c", "r", (W,), (("count", "w", "q", (ANY, ANY)), ("not", "q", (W, W))))]
        e1, e2, f2 = ("e", (1,), None, ()), ("e", (2,), None, ()), ("f", (2,), None, ())
        for steps, holds in (([e1, ("p", (1,), "a", (0,))], True), ([e2, ("p", (2,), "a", (0,))], False),
                             ([f2, ("q", (2, 1), "b", (0,))], True), ([f2, ("q", (2, 0), "b", (0,))], False),
                             ([("r", (1,), "c", ())], True), ([("r", (0,), "c", ())], False)):
            self.assertIs(self.check_account(items, steps), holds, steps)

    def test_heights_do_not_matter(self):
        """A step may use facts that are higher in the table, where its places allow it."""
        items = PATH + [("rule", "c", "p", (Y, X), (("fact", "p", (X, Y)), ("fact", "p", (Y, X)))),
                        ("rule", "d", "q", (X, Y), (("fact", "p", (X, Y)),)),
                        ("rule", "e", "p", (X, Y), (("fact", "q", (X, Y)),)),
                        ("rule", "f", "q", (X, Y), (("fact", "e", (X, Y)),))]
        steps = [("e", (1, 2), None, ()), ("q", (1, 2), "f", (0,)), ("p", (1, 2), "e", (1,))]
        self.assertTrue(self.check_account(items, steps))
        self.assertFalse(self.check_account(items, [steps[0], ("q", (1, 2), "d", (2,)), ("p", (1, 2), "e", (1,))]))

    def test_a_rule_of_a_fact_that_stands_in_the_state(self):
        """Where a fact of the state is also given by a rule, its step has no rule."""
        items = PATH + [("fact", "p", (1, 2))]
        table = changed(TABLE, "p", [((1, 2), 0), ((1, 3), 1), ((2, 3), 1)])
        self.assertTrue(accepts(State(items), table))
        self.assertTrue(self.check_account(items, [("p", (1, 2), None, ())], table))
        self.assertFalse(self.check_account(items, [self.STEPS[0], self.STEPS[1]], table))

    def mutated(self, chooser, steps):
        steps = list(steps)
        at = chooser.randrange(len(steps))
        relation, row, rule, places = steps[at]
        form = chooser.randrange(9)
        if form == 0:
            del steps[at]
        elif form == 1:
            steps.insert(chooser.randrange(len(steps) + 1), steps[at])
        elif form == 2:
            steps.insert(chooser.randrange(len(steps)), steps.pop(at))
        elif form == 3:
            steps[at] = (relation, row[:-1] + (chooser.choice((0, 1, 2, "a")),), rule, places)
        elif form == 4:
            steps[at] = (relation, row, chooser.choice((None, "r0", "r1", "r2", "none")), places)
        elif form == 5:
            new = tuple(chooser.randrange(-1, at + 2) for _ in range(len(places)))
            steps[at] = (relation, row, rule, new)
        elif form == 6:
            steps[at] = (relation, row, rule, chooser.choice((places + (0,), places[1:], places[::-1])))
        elif form == 7:
            steps[at] = (chooser.choice("abcdefpqrs"), row, rule, places)
        else:
            steps = steps[:at]
        return steps

    def test_random_accounts(self):
        told = collections.Counter()
        for seed in range(70):
            chooser = random.Random(seed)
            items = some_paths(chooser) if seed % 2 == 0 else some_state(chooser)
            state = State(items)
            table = heights(state)
            facts = [(name, pair[0]) for name in table for pair in table[name] if pair[1]]
            for relation, row in chooser.sample(facts, min(len(facts), 4)):
                steps = why(state, relation, row)
                for _ in range(12):
                    told[self.check_account(items, self.mutated(chooser, steps), table)] += 1
        self.assertGreater(told[True], 100)
        self.assertGreater(told[False], 700)


if __name__ == "__main__":
    unittest.main()

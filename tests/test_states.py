import copy
import itertools
import random
import unittest

from rulestead.states import State, between
from tests import plain

X = ("variable", "x")
BODY = (("fact", "e", (X,)), ("compare", "<", X, ("value", 3)))
OTHER = (("fact", "e", (X,)), ("compare", "<", X, ("value", "3")))
NAMES = ("a", "a_", "ab", "b")
ROWS = ((), (1,), ("1",), (1, 2), (-3, "x"), (10 ** 30 - 1, "~" * 30))
POOL = ([("relation", name, columns) for name in NAMES for columns in (1, 2)]
        + [("fact", name, row) for name in NAMES for row in ROWS]
        + [("rule", name, relation, (X,), body)
           for name in NAMES for relation in ("p", "q") for body in (BODY, OTHER)]
        + [("denial", name, body) for name in NAMES for body in (BODY, OTHER, ())])


def changes_of(chooser, many):
    """Changes of items and of keys, some of which are there and some not."""
    made = []
    for _ in range(many):
        item = chooser.choice(POOL)
        made.append(chooser.choice((("comes", item), ("goes", plain.key(item)))))
    return made


class StateCase(unittest.TestCase):

    def check(self, state, items):
        """Fails unless the state is exactly the one with these items."""
        relations, facts, rules, denials = plain.parts(items)
        self.assertEqual(state.relations, relations)
        self.assertEqual(state.facts, facts)
        self.assertEqual(state.rules, rules)
        self.assertEqual(state.denials, denials)
        self.assertEqual(state.all_items(), plain.in_order(items))
        self.assertIs(type(state.all_items()), list)
        for part in (state.relations, state.facts, state.rules, state.denials):
            self.assertIs(type(part), dict)
        self.assertTrue(all(type(rows) is list for rows in state.facts.values()))
        self.assertTrue(all(type(rule) is tuple for rule in state.rules.values()))


class MadeTest(StateCase):

    def test_the_empty_state(self):
        self.check(State(), [])
        self.check(State([]), [])
        self.check(State(()), [])
        self.assertEqual(State().facts, {})

    def test_ordinary_items(self):
        state = State([("denial", "d", BODY), ("rule", "r", "p", (X,), BODY), ("fact", "e", (2,)),
                       ("fact", "e", (1,)), ("relation", "e", 1), ("relation", "f", 2)])
        self.assertEqual(state.relations, {"e": 1, "f": 2})
        self.assertEqual(state.facts, {"e": [(1,), (2,)], "f": []})
        self.assertEqual(state.rules, {"r": ("p", (X,), BODY)})
        self.assertEqual(state.denials, {"d": BODY})
        self.assertEqual(state.all_items(), [
            ("relation", "e", 1), ("relation", "f", 2), ("fact", "e", (1,)), ("fact", "e", (2,)),
            ("rule", "r", "p", (X,), BODY), ("denial", "d", BODY)])

    def test_facts_without_a_relation_have_a_list(self):
        state = State([("fact", "g", ("b",)), ("fact", "g", (5,)), ("rule", "h", "h", (), ())])
        self.assertEqual(state.facts, {"g": [(5,), ("b",)]})
        self.assertEqual(state.relations, {})

    def test_rows_are_sorted_by_values(self):
        rows = [("",), (10, "a"), (2,), (10,), (-1, 3), ("10",), ("2",), (), (10, 5), (10, 5, 0)]
        for seed in range(20):
            mixed = list(rows)
            random.Random(seed).shuffle(mixed)
            state = State([("fact", "e", row) for row in mixed])
            self.assertEqual(state.facts["e"], [
                (), (-1, 3), (2,), (10,), (10, 5), (10, 5, 0), (10, "a"), ("",), ("10",), ("2",)])

    def test_of_one_key_the_last_item_counts(self):
        state = State([("relation", "e", 1), ("relation", "e", 2), ("fact", "e", (1,)), ("fact", "e", (1,)),
                       ("rule", "r", "p", (X,), BODY), ("rule", "r", "q", (), OTHER),
                       ("denial", "d", BODY), ("denial", "d", OTHER)])
        self.check(state, [("relation", "e", 2), ("fact", "e", (1,)), ("rule", "r", "q", (), OTHER),
                           ("denial", "d", OTHER)])
        self.assertEqual(state.facts, {"e": [(1,)]})

    def test_items_in_any_order(self):
        items = [("relation", "a", 1), ("relation", "a", 2), ("fact", "a", (1,)), ("fact", "ab", ("1",)),
                 ("rule", "a", "p", (X,), BODY), ("denial", "a", OTHER)]
        for mixed in itertools.permutations(items):
            self.check(State(mixed), mixed)
            self.check(State(list(mixed)), mixed)

    def test_many_items(self):
        for seed in range(200):
            chooser = random.Random(seed)
            items = [chooser.choice(POOL) for _ in range(chooser.randrange(40))]
            self.check(State(items), items)

    def test_what_is_passed_stays_and_may_change(self):
        items = [("relation", "e", 1), ("fact", "e", (1,))]
        before = copy.deepcopy(items)
        state = State(items)
        self.assertEqual(items, before)
        items.append(("fact", "e", (2,)))
        del items[0]
        self.check(state, before)

    def test_all_items_is_a_new_list_each_time(self):
        state = State([("relation", "e", 1), ("fact", "e", (1,))])
        told = state.all_items()
        told.clear()
        self.check(state, [("relation", "e", 1), ("fact", "e", (1,))])
        self.assertIsNot(state.all_items(), state.all_items())

    def test_states_share_nothing(self):
        first, second = State(), State()
        first.relations["e"] = 1
        first.facts["e"] = [(1,)]
        first.rules["r"] = ("p", (), ())
        first.denials["d"] = ()
        self.check(second, [])
        self.check(State(), [])


class HasTest(StateCase):

    def test_each_row_that_is_there_or_not(self):
        for many in range(len(ROWS) + 1):
            for kept in itertools.combinations(ROWS, many):
                state = State([("relation", "b", 1)] + [("fact", "a", row) for row in kept])
                for row in ROWS:
                    self.assertIs(state.has("a", row), row in kept)
                    self.assertIs(state.has("b", row), False)
                    self.assertIs(state.has("ab", row), False)

    def test_kinds_and_lengths(self):
        state = State([("fact", "e", (1, "2"))])
        self.assertIs(state.has("e", (1, "2")), True)
        for row in ((1, 2), ("1", "2"), (1,), (1, "2", 0), ()):
            self.assertIs(state.has("e", row), False)

    def test_other_items_are_no_facts(self):
        state = State([("relation", "e", 1), ("rule", "e", "e", (), ()), ("denial", "e", ())])
        self.assertIs(state.has("e", ()), False)
        self.assertIs(State().has("e", (1,)), False)

    def test_asking_changes_nothing(self):
        state = State([("relation", "e", 1)])
        state.has("f", (1,))
        self.check(state, [("relation", "e", 1)])


class CopyTest(StateCase):

    def spoil(self, state):
        """Does to a state all that can be done to its parts."""
        state.relations["new"] = 1
        state.relations.pop("a", None)
        for rows in state.facts.values():
            rows.append(("new",))
        state.facts["new"] = []
        state.rules.clear()
        state.denials["new"] = ()

    def test_a_copy_is_the_same(self):
        for seed in range(50):
            chooser = random.Random(seed)
            items = [chooser.choice(POOL) for _ in range(chooser.randrange(40))]
            made = State(items).copy()
            self.check(made, items)
            self.assertIs(type(made), State)

    def test_nothing_done_to_a_copy_is_in_the_state(self):
        state = State(POOL)
        self.spoil(state.copy())
        self.check(state, POOL)

    def test_nothing_done_to_the_state_is_in_a_copy(self):
        state = State(POOL)
        made = state.copy()
        self.spoil(state)
        self.check(made, POOL)

    def test_a_changed_state_shares_nothing(self):
        for changes in ([], [("comes", ("fact", "a", (7,)))], [("goes", (0, "none", ()))]):
            state = State(POOL)
            made = state.change(changes)
            self.spoil(made)
            self.check(state, POOL)
            made = state.change(changes)
            self.spoil(state)
            self.check(made, plain.changed(POOL, changes))


class ChangeTest(StateCase):

    def test_no_changes(self):
        state = State(POOL)
        made = state.change([])
        self.check(made, POOL)
        self.assertIsNot(made, state)
        self.assertIs(type(made), State)

    def test_each_sort_comes_and_goes(self):
        for item in (("relation", "e", 1), ("fact", "e", (1,)), ("rule", "r", "p", (X,), BODY),
                     ("denial", "d", BODY)):
            made = State().change([("comes", item)])
            self.check(made, [item])
            self.check(made.change([("goes", plain.key(item))]), [])
            self.check(made.change([("comes", item)]), [item])

    def test_what_comes_takes_the_place_of_its_key(self):
        state = State([("relation", "e", 1), ("fact", "e", (1,)), ("rule", "r", "p", (X,), BODY),
                       ("denial", "d", BODY)])
        made = state.change([("comes", ("relation", "e", 2)), ("comes", ("rule", "r", "q", (), ())),
                             ("comes", ("denial", "d", ())), ("comes", ("fact", "e", (1,)))])
        self.check(made, [("relation", "e", 2), ("fact", "e", (1,)), ("rule", "r", "q", (), ()),
                          ("denial", "d", ())])

    def test_keys_that_are_not_there(self):
        items = [("relation", "e", 1), ("fact", "e", (1,)), ("rule", "r", "p", (), ()), ("denial", "d", ())]
        state = State(items)
        for key in ((0, "f", ()), (1, "e", ("1",)), (1, "e", ()), (1, "f", (1,)), (2, "d", ()), (3, "r", ())):
            self.check(state.change([("goes", key)]), items)
            self.check(State().change([("goes", key)]), [])

    def test_a_row_in_a_key_that_no_item_has(self):
        items = [("relation", "e", 1), ("fact", "f", (1,)), ("rule", "e", "p", (), ()), ("denial", "e", ())]
        for sort in (0, 2, 3):
            self.check(State(items).change([("goes", (sort, "e", (1,)))]), items)

    def test_a_relation_goes_while_it_has_facts(self):
        state = State([("relation", "e", 1), ("fact", "e", (1,)), ("fact", "e", (2,))])
        made = state.change([("goes", (0, "e", ()))])
        self.assertEqual(made.facts, {"e": [(1,), (2,)]})
        self.assertEqual(made.relations, {})

    def test_a_relation_goes_without_facts(self):
        state = State([("relation", "e", 1), ("relation", "f", 1)])
        self.assertEqual(state.change([("goes", (0, "e", ()))]).facts, {"f": []})

    def test_the_last_fact_goes(self):
        state = State([("fact", "e", (1,)), ("fact", "e", (2,))])
        made = state.change([("goes", (1, "e", (1,)))])
        self.assertEqual(made.facts, {"e": [(2,)]})
        self.assertEqual(made.change([("goes", (1, "e", (2,)))]).facts, {})
        based = made.change([("comes", ("relation", "e", 1)), ("goes", (1, "e", (2,)))])
        self.assertEqual(based.facts, {"e": []})

    def test_a_relation_comes_for_a_name_with_facts(self):
        state = State([("fact", "e", (1,))])
        made = state.change([("comes", ("relation", "e", 4))])
        self.assertEqual(made.facts, {"e": [(1,)]})
        self.assertEqual(made.relations, {"e": 4})

    def test_changes_are_made_one_after_another(self):
        fact = ("fact", "e", (1,))
        key = (1, "e", (1,))
        self.check(State().change([("comes", fact), ("goes", key)]), [])
        self.check(State([fact]).change([("goes", key), ("comes", fact)]), [fact])
        self.check(State().change([("comes", ("relation", "e", 1)), ("comes", ("relation", "e", 2))]),
                   [("relation", "e", 2)])

    def test_many_changes_and_the_state_before(self):
        for seed in range(200):
            chooser = random.Random(seed)
            items, state = [], State()
            for _ in range(8):
                changes = changes_of(chooser, chooser.randrange(12))
                before = copy.deepcopy(changes)
                made = state.change(changes)
                self.assertEqual(changes, before)
                self.check(state, items)
                items = plain.changed(items, changes)
                self.check(made, items)
                state = made

    def test_each_single_change(self):
        items = [item for at, item in enumerate(POOL) if at % 2]
        state = State(items)
        for item in POOL:
            for change in (("comes", item), ("goes", plain.key(item))):
                self.check(state.change([change]), plain.changed(items, [change]))
        self.check(state, items)

    def test_the_list_of_changes_may_change_later(self):
        changes = [("comes", ("relation", "e", 1))]
        made = State().change(changes)
        changes.append(("goes", (0, "e", ())))
        self.check(made, [("relation", "e", 1)])

    def test_changes_in_a_tuple(self):
        made = State().change((("comes", ("relation", "e", 1)),))
        self.check(made, [("relation", "e", 1)])


class BetweenTest(StateCase):

    def check_between(self, first, second):
        one, other = State(first), State(second)
        changes = between(one, other)
        self.assertIs(type(changes), list)
        self.assertEqual(changes, plain.between(first, second))
        self.check(one.change(changes), second)
        self.check(one, first)
        self.check(other, second)

    def test_the_order_of_changes(self):
        first = State([("relation", "e", 1), ("relation", "g", 1), ("fact", "e", (2,)), ("fact", "e", (1,)),
                       ("rule", "r", "p", (X,), BODY), ("denial", "d", BODY), ("denial", "c", ())])
        second = State([("denial", "b", ()), ("denial", "d", OTHER), ("rule", "s", "p", (), ()),
                        ("relation", "f", 1), ("fact", "e", ("a",)), ("fact", "e", (0,)), ("relation", "e", 2)])
        self.assertEqual(between(first, second), [
            ("goes", (0, "g", ())), ("goes", (1, "e", (1,))), ("goes", (1, "e", (2,))),
            ("goes", (2, "r", ())), ("goes", (3, "c", ())),
            ("comes", ("relation", "e", 2)), ("comes", ("relation", "f", 1)), ("comes", ("fact", "e", (0,))),
            ("comes", ("fact", "e", ("a",))), ("comes", ("rule", "s", "p", (), ())),
            ("comes", ("denial", "b", ())), ("comes", ("denial", "d", OTHER))])

    def test_equal_states(self):
        self.assertEqual(between(State(), State()), [])
        self.assertEqual(between(State(POOL), State(POOL)), [])
        state = State(POOL)
        self.assertEqual(between(state, state), [])

    def test_from_and_to_the_empty_state(self):
        self.check_between([], POOL)
        self.check_between(POOL, [])

    def test_another_content_comes_without_going(self):
        for first, second in ((("relation", "e", 1), ("relation", "e", 2)),
                              (("rule", "r", "p", (X,), BODY), ("rule", "r", "p", (X,), OTHER)),
                              (("rule", "r", "p", (X,), BODY), ("rule", "r", "q", (X,), BODY)),
                              (("rule", "r", "p", (X,), BODY), ("rule", "r", "p", (), BODY)),
                              (("denial", "d", BODY), ("denial", "d", OTHER))):
            self.assertEqual(between(State([first]), State([second])), [("comes", second)])
            self.assertEqual(between(State([first]), State([first])), [])

    def test_an_integer_and_a_string_are_different_rows(self):
        changes = between(State([("fact", "e", (1,))]), State([("fact", "e", ("1",))]))
        self.assertEqual(changes, [("goes", (1, "e", (1,))), ("comes", ("fact", "e", ("1",)))])

    def test_many_states(self):
        for seed in range(200):
            chooser = random.Random(seed)
            first = plain.in_order([chooser.choice(POOL) for _ in range(chooser.randrange(30))])
            second = plain.in_order([chooser.choice(POOL) for _ in range(chooser.randrange(30))])
            self.check_between(first, second)
            self.check_between(first, plain.changed(first, changes_of(chooser, chooser.randrange(9))))

    def test_what_is_returned_is_a_new_list(self):
        first, second = State(), State([("relation", "e", 1)])
        between(first, second).clear()
        self.assertEqual(between(first, second), [("comes", ("relation", "e", 1))])


if __name__ == "__main__":
    unittest.main()

import copy
import random
import unittest

from rulestead.model import heights, levels, model
from rulestead.states import State
from tests import plain_rules
from tests.chance import ANY, W, X, Y, Z, fact, rule, some_paths, some_state, value


def given(relation, *rows):
    """A relation of the base with its facts; a value stands for a row of one."""
    rows = [row if isinstance(row, tuple) else (row,) for row in rows]
    return [("relation", relation, len(rows[0]))] + [fact(relation, *row) for row in rows]


EMPTY = [("relation", "none", 1)]
PATH = given("e", (1, 2), (2, 3), (3, 4), ("a", "b"))
CLOSED = PATH + [rule("a", "p", (X, Y), fact("e", X, Y)),
                 rule("b", "p", (X, Z), fact("p", X, Y), fact("e", Y, Z))]


class ModelCase(unittest.TestCase):

    def check(self, items, rows=None, table=None, known=None):
        """Fails unless model, heights and levels are these, and what the plain versions say."""
        state = State(items)
        before = copy.deepcopy((state.relations, state.facts, state.rules, state.denials))
        found = model(state)
        self.assertEqual(found, plain_rules.model(items))
        told = heights(state)
        self.assertEqual(told, plain_rules.table(items, found))
        # The model is what its own `not` and `count` leave to the rules.
        self.assertEqual({name: [pair[0] for pair in told[name]] for name in told}, found)
        self.assertEqual(levels(state), plain_rules.levels(items))
        for wanted, result in ((rows, found), (table, told), (known, levels(state))):
            for name in wanted or {}:
                self.assertEqual(result[name], wanted[name], name)
        self.assertEqual((state.relations, state.facts, state.rules, state.denials), before)
        return found, told


class SmallTest(ModelCase):

    def test_no_rules(self):
        self.assertEqual(model(State()), {})
        self.assertEqual(heights(State()), {})
        self.assertEqual(levels(State()), {})
        items = EMPTY + given("e", 3, "1", 1, "", -2)
        rows = [(-2,), (1,), (3,), ("",), ("1",)]
        self.check(items, {"none": [], "e": rows}, {"none": [], "e": [(row, 0) for row in rows]},
                   {"none": 0, "e": 0})

    def test_kinds_of_what_is_returned(self):
        state = State(CLOSED)
        self.assertIs(type(levels(state)), dict)
        for told in (model(state), heights(state)):
            self.assertIs(type(told), dict)
            self.assertEqual(sorted(told), ["e", "p"])
            for rows in told.values():
                self.assertIs(type(rows), list)
                self.assertTrue(all(type(row) is tuple for row in rows))

    def test_recursion(self):
        first = [(1, 2), (2, 3), (3, 4), ("a", "b")]
        self.check(CLOSED, {"e": first, "p": [(1, 2), (1, 3), (1, 4), (2, 3), (2, 4), (3, 4), ("a", "b")]},
                   {"p": [((1, 2), 1), ((1, 3), 2), ((1, 4), 3), ((2, 3), 1), ((2, 4), 2), ((3, 4), 1),
                          (("a", "b"), 1)]}, {"e": 0, "p": 0})

    def test_a_circle(self):
        items = given("e", (1, 2), (2, 1)) + CLOSED[5:]
        self.check(items, {"p": [(1, 1), (1, 2), (2, 1), (2, 2)]},
                   {"p": [((1, 1), 2), ((1, 2), 1), ((2, 1), 1), ((2, 2), 2)]})

    def test_a_relation_that_no_row_reaches(self):
        items = EMPTY + [rule("a", "p", (X,), fact("none", X)), rule("b", "q", (X,), fact("q", X))]
        self.check(items, {"none": [], "p": [], "q": []}, {"none": [], "p": [], "q": []})

    def test_rules_without_facts(self):
        items = EMPTY + given("e", 1, 2) + [
            rule("a", "p", (value("x"), value(7))),
            rule("b", "q", (W,), ("count", "w", "e", (ANY,))),
            rule("c", "r", (value(0),), ("not", "none", (ANY,))),
            rule("d", "r", (value(1),), ("not", "e", (ANY,))),
            rule("e", "s", (X,), ("is", "x", "*", value(6), value(7)), ("compare", ">", X, value(41))),
            rule("f", "t", (W,), ("count", "w", "q", (value(2),)), ("not", "r", (value(1),)))]
        self.check(items, {"p": [("x", 7)], "q": [(2,)], "r": [(0,)], "s": [(42,)], "t": [(1,)]},
                   {"p": [(("x", 7), 1)], "q": [((2,), 1)], "r": [((0,), 1)], "s": [((42,), 1)],
                    "t": [((1,), 1)]},
                   {"e": 0, "p": 0, "q": 1, "r": 1, "s": 0, "t": 2})

    def test_the_least_height_counts(self):
        items = given("e", 1) + [
            rule("a", "p", (X,), fact("e", X)), rule("b", "q", (X,), fact("p", X)),
            rule("c", "r", (X,), fact("q", X)), rule("d", "r", (X,), fact("p", X), fact("q", X)),
            rule("z", "r", (X,), fact("e", X)), rule("y", "s", (X,), fact("q", X), fact("r", X))]
        self.check(items, {}, {"p": [((1,), 1)], "q": [((1,), 2)], "r": [((1,), 1)], "s": [((1,), 3)]})

    def test_a_fact_that_is_taken_twice(self):
        items = given("e", (1, 2), (2, 2)) + [
            rule("a", "p", (X,), fact("e", X, Y), fact("e", X, Y), fact("e", Y, Y)),
            rule("b", "q", (X,), fact("p", X), fact("p", X))]
        self.check(items, {}, {"p": [((1,), 1), ((2,), 1)], "q": [((1,), 2), ((2,), 2)]})

    def test_not_and_count_do_not_add_to_heights(self):
        items = CLOSED + [rule("c", "q", (X,), fact("e", X, Y), ("not", "p", (ANY, X))),
                          rule("d", "r", (X, W), fact("e", X, Y), ("count", "w", "p", (X, Z)))]
        self.check(items, {}, {"q": [((1,), 1), (("a",), 1)],
                               "r": [((1, 3), 1), ((2, 2), 1), ((3, 1), 1), (("a", 1), 1)]},
                   {"p": 0, "q": 1, "r": 1})

    def test_a_row_that_two_rules_give_is_there_once(self):
        items = given("e", 1) + [rule("a", "p", (X,), fact("e", X)), rule("b", "p", (value(1),))]
        self.check(items, {"p": [(1,)]}, {"p": [((1,), 1)]})

    def test_an_integer_and_a_string_are_two_rows(self):
        items = given("e", 1, "1") + [rule("a", "p", (X, X), fact("e", X))]
        self.check(items, {"p": [(1, 1), ("1", "1")]})

    def test_levels(self):
        items = EMPTY + [
            rule("a", "p", (X,), fact("none", X)),
            rule("b", "q", (X,), fact("p", X), ("not", "p", (X,))),
            rule("c", "q", (X,), fact("r", X)), rule("d", "r", (X,), fact("q", X)),
            rule("e", "s", (Y,), fact("r", X), ("is", "y", "+", X, value(1))),
            rule("f", "t", (X,), fact("none", X), ("count", "y", "s", (X,))),
            rule("g", "u", (X,), fact("t", X), fact("s", X)),
            rule("h", "v", (Y,), fact("u", Y), ("is", "y", "+", Y, value(1))),
            rule("i", "w", (W,), fact("v", X), ("count", "w", "none", (X,)), ("is", "w", "+", X, X))]
        self.check(items, {}, {}, {"none": 0, "p": 0, "q": 1, "r": 1, "s": 2, "t": 3, "u": 3, "v": 3, "w": 3})

    def test_a_made_variable_alone_raises_no_level(self):
        items = EMPTY + [rule("a", "p", (X,), ("is", "x", "+", value(1), value(1))),
                         rule("b", "q", (X,), fact("none", Y), ("is", "x", "+", value(1), value(1))),
                         rule("c", "r", (Y,), ("is", "x", "+", value(1), value(1)), fact("p", Y))]
        self.check(items, {}, {}, {"p": 0, "q": 1, "r": 1})

    def test_heads_of_three_and_four_terms(self):
        items = given("e", (1, 2), (2, 1)) + [
            rule("a", "p", (X, Y, X), fact("e", X, Y)),
            rule("b", "q", (Z, value("k"), X, Y), fact("p", X, Y, Z), fact("e", Z, Y)),
            rule("c", "p", (Y, Z, value(0)), fact("q", X, ANY, Y, Z))]
        self.check(items, {"p": [(1, 2, 0), (1, 2, 1), (2, 1, 0), (2, 1, 2)],
                           "q": [(1, "k", 1, 2), (2, "k", 2, 1)]})

    def test_arithmetic_beyond_the_bound_and_below_zero(self):
        great = 10 ** 30 - 1
        items = given("e", great, -great) + [
            rule("a", "p", (Y,), fact("e", X), ("is", "y", "*", X, X)),
            rule("b", "q", (Y,), fact("p", X), ("is", "y", "*", X, X)),
            rule("c", "r", (Y, Z), fact("q", X), fact("e", Z), ("is", "y", "-", Z, X)),
            rule("d", "s", (W,), fact("r", X, Y), ("is", "w", "-", X, Y), ("compare", "<", W, value(0)))]
        self.check(items, {"p": [(great ** 2,)], "q": [(great ** 4,)],
                           "r": [(-great - great ** 4, -great), (great - great ** 4, great)],
                           "s": [(-great ** 4,)]}, {}, {"p": 1, "q": 2, "r": 3, "s": 4})

    def test_nothing_is_shared(self):
        state = State(CLOSED)
        for function in (model, heights, levels):
            told = function(state)
            kept = copy.deepcopy(told)
            for name, part in told.items():
                if isinstance(part, list):
                    part.clear()
            told.clear()
            self.assertEqual(function(state), kept)
        self.assertEqual(state.all_items(), State(CLOSED).all_items())


class LongTest(ModelCase):

    def test_chains_of_relations(self):
        """Each relation of a chain comes from the one before it through one form of literal."""
        for seed in range(150):
            chooser = random.Random(seed)
            names = chooser.sample(["b", "c", "f", "k", "m", "p", "r", "x", "z"], chooser.randint(5, 8))
            marks = chooser.sample("abcdefghijklm", len(names))
            items, last = EMPTY + given("e", 1, 2, 3, 4), "e"
            for name, mark in zip(names, marks):
                body = chooser.choice((
                    (fact(last, X),), (fact("e", X), ("not", last, (X,))),
                    (fact("e", Y), ("count", "x", last, (Y,))),
                    (fact(last, Y), ("is", "x", "+", Y, value(1))),
                    (fact(last, X), ("is", "x", "*", X, value(1)))))
                items.append(rule(mark, name, (X,), *body))
                last = name
            chooser.shuffle(items)
            self.check(items)

    def test_rings_that_begin_from_facts(self):
        for many in range(2, 7):
            names = ["g", "c", "z", "a", "m", "b"][:many]
            items = given("e", *[(at, (at + 1) % 7) for at in range(7)]) + given("n", 0)
            items.append(rule("start", names[-1], (X,), fact("n", X)))
            for at in range(many):
                items.append(rule(f"r{at}", names[at], (Y,), fact(names[at - 1], X), fact("e", X, Y)))
            _, told = self.check(items)
            self.assertEqual({len(told[name]) for name in names}, {7})
            self.assertEqual(max(pair[1] for name in names for pair in told[name]), 7 * many)

    def test_rules_of_several_facts_with_the_last_one_recursive(self):
        items = given("e", *[(at, at + 1) for at in range(12)]) + given("n", 0)
        items.append(rule("a", "p", (X,), fact("n", X)))
        three = rule("b", "p", (Z,), fact("e", X, Y), fact("e", Y, Z), fact("p", X))
        four = rule("c", "p", (W,), fact("e", X, Y), fact("e", Y, Z), fact("e", Z, W), fact("p", X))
        self.check(items + [three], {}, {"p": [((2 * at,), at + 1) for at in range(7)]})
        self.check(items + [four], {}, {"p": [((3 * at,), at + 1) for at in range(5)]})
        found, _ = self.check(items + [three, four])
        self.assertEqual(found["p"], [(at,) for at in range(13) if at != 1])

    def test_doubled_recursion(self):
        items = given("e", *[(at, at + 1) for at in range(9)]) + [
            rule("a", "p", (X, Y), fact("e", X, Y)),
            rule("b", "p", (X, Z), fact("p", X, Y), fact("p", Y, Z))]
        _, told = self.check(items)
        self.assertEqual(dict(told["p"])[0, 9], 5)
        self.assertEqual(len(told["p"]), 45)

    def test_sixty_rows_and_many_rounds(self):
        items = given("e", *[(at, at + 1) for at in range(60)]) + [
            rule("a", "p", (value(0),)),
            rule("b", "p", (Y,), fact("p", X), fact("e", X, Y)),
            rule("c", "q", (X, Y), fact("p", X), ("compare", "<", X, value(16)), fact("p", Y))]
        table = heights(State(items))
        self.assertEqual(table["p"], [((at,), at + 1) for at in range(61)])
        self.assertEqual(table["q"], [((one, two), max(one, two) + 2) for one in range(16) for two in range(61)])

    def test_a_long_ring(self):
        names = "bcdfgh"
        items = given("e", *[(at, (at + 1) % 59) for at in range(59)])
        items.append(rule("start", "h", (value(0),)))
        for at in range(6):
            items.append(rule(f"r{at}", names[at], (Y,), fact(names[at - 1], X), fact("e", X, Y)))
        table = heights(State(items))
        # Only after 59 rounds of the ring it comes back to the row where it began.
        self.assertEqual({len(table[name]) for name in names}, {59})
        self.assertEqual(max(pair[1] for name in names for pair in table[name]), 6 * 59)


class RandomTest(ModelCase):

    def check_many(self, maker, many):
        """The numbers of rules, of derived rows and of recursive rules, and the greatest height."""
        rules = facts = recursive = most = 0
        for seed in range(many):
            items = maker(random.Random(seed))
            _, told = self.check(items)
            made = plain_rules.of_sort(items, "rule")
            led = plain_rules.leading(items)
            rules += len(made)
            facts += sum(len(told[relation]) for relation in {item[2] for item in made})
            recursive += sum((item[2], item[2]) in led for item in made)
            most = max([most] + [pair[1] for name in told for pair in told[name]])
        return rules, facts, recursive, most

    # The states must not be so strange that there is nothing to compare.

    def test_random_states(self):
        rules, facts, recursive, most = self.check_many(some_state, 400)
        self.assertGreater(min(rules, facts), 800)
        self.assertGreater(recursive, 100)
        self.assertGreater(most, 2)

    def test_random_paths(self):
        rules, facts, recursive, most = self.check_many(some_paths, 120)
        self.assertGreater(rules, 800)
        self.assertGreater(facts, 3000)
        self.assertGreater(recursive, 400)
        self.assertGreater(most, 5)

    def test_the_order_of_items_and_the_names_of_rules_do_not_matter(self):
        for seed in range(60):
            chooser = random.Random(seed)
            items = some_state(chooser)
            found = model(State(items)), heights(State(items))
            names = chooser.sample(range(100), 60)
            mixed = [item[:1] + (f"n{names.pop()}",) + item[2:] if item[0] == "rule" else item for item in items]
            chooser.shuffle(mixed)
            self.assertEqual((model(State(mixed)), heights(State(mixed))), found)

    def test_denials_do_not_matter(self):
        items = CLOSED + [("denial", "d", (fact("p", X, Y),))]
        self.assertEqual(model(State(items)), model(State(CLOSED)))
        self.assertEqual(heights(State(items)), heights(State(CLOSED)))


if __name__ == "__main__":
    unittest.main()

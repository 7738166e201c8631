import collections
import copy
import random
import unittest

from rulestead.errors import Refused
from rulestead.states import State
from rulestead.statements import say
from tests import plain, plain_rules, plain_statements
from tests.chance import ANY, W, X, Y, Z, denial, fact, rule, some_state, value
from tests.talk import FORMS, Talk, some_statement, spoil


def parts(state):
    return copy.deepcopy((state.relations, state.facts, state.rules, state.denials))


class StatementCase(unittest.TestCase):

    def say(self, items, statement):
        """What is told of a statement and the items after it; the plain version must tell the same."""
        # Rules and denials are looked at by name, in whatever order they came.
        state, kept = State(items[::-1]), copy.deepcopy(statement)
        before = parts(state)
        expected, after = plain_statements.say(items, statement)
        try:
            told = say(state, statement)
            self.assertIs(type(told), tuple)
            answer, made = told
            self.assertIs(type(made), State)
            self.assertEqual(parts(made), plain.parts(after), statement)
            told = ("answer", copy.deepcopy(answer))
            spoil(answer)
            spoil(made)
        except Refused as refused:
            told = ("problem", refused.problem)
        # The text of a value tells its kind, too.
        self.assertEqual(repr(told), repr(expected), (items, statement))
        self.assertEqual(parts(state), before)
        self.assertEqual(repr(statement), repr(kept))
        return told, after

    def answers(self, items, statement, expected, after=None):
        told, made = self.say(plain.in_order(items), statement)
        self.assertEqual(repr(told), repr(("answer", expected)))
        self.assertEqual(made, plain.in_order(items if after is None else after))

    def refuses(self, items, statement, *problem):
        told, made = self.say(plain.in_order(items), statement)
        self.assertEqual(told, ("problem", problem))
        self.assertEqual(made, plain.in_order(items))


BASE = [("relation", "a", 1), ("relation", "b", 2)]
PATH = BASE + [fact("b", 1, 2), fact("b", 2, 3), rule("r1", "p", (X, Y), fact("b", X, Y)),
               rule("r2", "p", (X, Z), fact("p", X, Y), fact("b", Y, Z))]


class RelationTest(StatementCase):

    def test_relations_come(self):
        for columns in (1, 2, 3, 4):
            self.answers(BASE, ("relation", "c", columns), None, BASE + [("relation", "c", columns)])
        self.answers([], ("relation", "a", 1), None, BASE[:1])

    def test_relations_that_are_there(self):
        self.refuses(BASE, ("relation", "a", 1), "exists", "relation", "a")
        self.refuses(BASE, ("relation", "a", 9), "exists", "relation", "a")
        self.refuses(PATH, ("relation", "p", 2), "exists", "relation", "p")
        self.refuses(PATH, ("relation", "p", 0), "exists", "relation", "p")

    def test_columns(self):
        for columns in (0, 5, -1, 10 ** 20):
            self.refuses(BASE, ("relation", "c", columns), "columns")

    def test_names_of_rules_and_denials_are_free(self):
        items = PATH + [denial("d", fact("a", X))]
        self.answers(items, ("relation", "r1", 1), None, items + [("relation", "r1", 1)])
        self.answers(items, ("relation", "d", 1), None, items + [("relation", "d", 1)])

    def test_relations_go_with_their_facts(self):
        items = BASE + [fact("b", 1, 2), fact("a", 1), fact("a", "x")]
        self.answers(items, ("drop", "a"), None, BASE[1:] + [fact("b", 1, 2)])
        self.answers(BASE, ("drop", "b"), None, BASE[:1])

    def test_no_relation_to_drop(self):
        self.refuses(BASE, ("drop", "c"), "no relation", "c")
        self.refuses(PATH, ("drop", "p"), "no relation", "p")
        self.refuses([], ("drop", "a"), "no relation", "a")

    def test_relations_that_are_used(self):
        self.refuses(PATH, ("drop", "b"), "used", "rule", "r1")
        for literal in (fact("a", X), ("not", "a", (value(1),)), ("count", "w", "a", (ANY,))):
            self.refuses(BASE + [denial("d", literal)], ("drop", "a"), "used", "denial", "d")
            items = BASE + [denial("c", literal), rule("z", "p", (value(1),), literal), denial("b", literal)]
            self.refuses(items, ("drop", "a"), "used", "rule", "z")
            self.refuses(items + [rule("y", "p", (value(1),), literal)], ("drop", "a"), "used", "rule", "y")
            self.refuses(items[:3] + items[4:], ("drop", "a"), "used", "denial", "b")
            self.answers(items, ("drop", "b"), None, BASE[:1] + items[2:])

    def test_names_of_variables_and_operators_are_no_use(self):
        items = BASE + [("relation", "w", 1), denial("d", ("count", "w", "b", (X, Y)), fact("b", ("variable", "a"), Y)),
                        rule("r", "p", (("variable", "a"),), fact("b", ("variable", "a"), W))]
        self.answers(items, ("drop", "a"), None, items[1:])
        self.answers(items, ("drop", "w"), None, items[:2] + items[3:])


class FactTest(StatementCase):

    def test_facts_come(self):
        self.answers(BASE, ("add", "a", (1,)), True, BASE + [fact("a", 1)])
        self.answers(BASE + [fact("a", 1)], ("add", "a", (1,)), False)
        self.answers(BASE + [fact("a", 1)], ("add", "a", ("1",)), True, BASE + [fact("a", 1), fact("a", "1")])
        great = 10 ** 30 - 1
        self.answers(BASE, ("add", "b", (-great, "~ !")), True, BASE + [fact("b", -great, "~ !")])

    def test_facts_go(self):
        self.answers(BASE + [fact("a", 1)], ("remove", "a", (1,)), True, BASE)
        self.answers(BASE, ("remove", "a", (1,)), False)
        self.answers(BASE + [fact("a", 1)], ("remove", "a", ("1",)), False)

    def test_problems(self):
        for form in ("add", "remove"):
            self.refuses(PATH, (form, "p", (1, 2)), "derived", "p")
            self.refuses(PATH, (form, "p", ()), "derived", "p")
            self.refuses(PATH, (form, "c", (1,)), "no relation", "c")
            self.refuses(PATH, (form, "c", ()), "no relation", "c")
            for row in ((), (1,), (1, 2, 3)):
                self.refuses(PATH, (form, "b", row), "width", "b")


class RuleTest(StatementCase):

    def test_rules_come(self):
        new = rule("r", "p", (X,), fact("a", X))
        self.answers(BASE, new, None, BASE + [new])
        other = rule("s", "p", (X,), fact("p", X), fact("a", X))
        self.answers(BASE + [new], other, None, BASE + [new, other])

    def test_problems_of_rules(self):
        self.refuses(PATH, rule("r1", "a", (X, Y, Z)), "exists", "rule", "r1")
        self.refuses(PATH, rule("s", "a", (X, Y, Z)), "base", "a")
        self.refuses(PATH, rule("s", "p", (X, Y, Z)), "width", "p")
        self.refuses(PATH, rule("s", "q", ()), "width", "q")
        self.refuses(PATH, rule("s", "q", (X,), fact("c", X)), "no relation", "c")
        self.refuses(PATH, rule("s", "q", (X,), fact("b", X)), "width", "b")
        self.refuses(PATH, rule("s", "q", (X, ANY), fact("a", Y)), "unbound", "x")
        self.refuses(PATH, rule("s", "q", (ANY, X), fact("a", Y)), "any")
        self.refuses(PATH, rule("s", "q", (X,), fact("a", X), ("not", "q", (X,))), "ring")
        grown = ("is", "w", "+", X, value(1))
        self.refuses(PATH, rule("s", "q", (W,), fact("q", X), grown), "grows", "s")

    def test_rules_go(self):
        self.answers(PATH, ("strike", "r2"), None, PATH[:-1])
        self.answers(PATH, ("strike", "r1"), None, PATH[:-2] + PATH[-1:])
        self.answers(PATH[:-1], ("strike", "r1"), None, PATH[:-2])

    def test_no_rule_to_strike(self):
        self.refuses(PATH, ("strike", "r3"), "no rule", "r3")
        self.refuses(PATH, ("strike", "p"), "no rule", "p")

    def test_the_only_rule_of_a_relation_that_is_used(self):
        items = PATH[:-1] + [denial("c", ("not", "p", (value(1), ANY)))]
        self.refuses(items, ("strike", "r1"), "used", "denial", "c")
        self.refuses(items + [denial("b", fact("p", X, Y))], ("strike", "r1"), "used", "denial", "b")
        for literal in (fact("p", X, Y), ("not", "p", (ANY, ANY)), ("count", "x", "p", (ANY, ANY))):
            used = items + [rule("z", "q", (value(1),), literal)]
            self.refuses(used, ("strike", "r1"), "used", "rule", "z")
            self.refuses(used + [rule("a", "q", (value(1),), literal)], ("strike", "r1"), "used", "rule", "a")

    def test_another_rule_gives_the_relation(self):
        items = PATH + [denial("c", fact("p", value(9), ANY)), rule("z", "q", (X,), fact("p", X, Y))]
        self.answers(items, ("strike", "r1"), None, [item for item in items if item[1] != "r1"])

    def test_a_rule_is_no_use_of_its_own(self):
        """Only other rules hinder, and the last rule may stand in its own body."""
        items = PATH[:-2] + PATH[-1:]
        self.answers(items, ("strike", "r2"), None, PATH[:-2])
        self.refuses(items + [denial("c", fact("p", X, Y))], ("strike", "r2"), "used", "denial", "c")


class DenialTest(StatementCase):

    def test_denials_come_and_go(self):
        new = denial("d", fact("a", X), ("not", "b", (X, ANY)))
        self.answers(BASE, ("deny",) + new[1:], None, BASE + [new])
        self.answers(BASE + [new], ("allow", "d"), None, BASE)
        self.answers(PATH, ("deny", "r1", ()), None, PATH + [denial("r1")])

    def test_a_clash_is_not_looked_at(self):
        items = BASE + [fact("a", 1)]
        new = denial("d", fact("a", X))
        self.answers(items, ("deny",) + new[1:], None, items + [new])
        self.answers(items + [new], ("add", "a", (2,)), True, items + [new, fact("a", 2)])

    def test_problems(self):
        items = BASE + [denial("d")]
        self.refuses(items, ("deny", "d", (fact("c", X),)), "exists", "denial", "d")
        self.refuses(items, ("deny", "e", (fact("c", X),)), "no relation", "c")
        self.refuses(items, ("deny", "e", (fact("a", X, X),)), "width", "a")
        self.refuses(items, ("deny", "e", (("not", "a", (X,)),)), "unbound", "x")
        self.refuses(items, ("deny", "e", (("compare", "=", ANY, X),)), "any")
        self.refuses(items, ("deny", "e", (("count", "x", "a", (X,)),)), "own total", "x")
        self.refuses(items, ("allow", "e"), "no denial", "e")
        self.refuses(PATH, ("allow", "r1"), "no denial", "r1")


class AskTest(StatementCase):

    def test_variables_in_the_order_in_which_they_are_bound(self):
        self.answers(PATH, ("ask", (fact("b", Y, X),)), (("y", "x"), [(1, 2), (2, 3)]))
        self.answers(PATH, ("ask", (fact("b", Y, X), fact("p", X, W))), (("y", "x", "w"), [(1, 2, 3)]))
        self.answers(PATH, ("ask", (("count", "w", "p", (ANY, ANY)), fact("b", X, ANY))),
                     (("w", "x"), [(3, 1), (3, 2)]))
        self.answers(PATH, ("ask", (fact("b", X, Y), ("is", "w", "+", X, Y))),
                     (("x", "y", "w"), [(1, 2, 3), (2, 3, 5)]))

    def test_rows_in_order_each_once(self):
        items = BASE + [fact("b", *row) for row in ((1, 10), (2, 9), (3, "1"), (4, 9), (5, ""))]
        self.answers(items, ("ask", (fact("b", ANY, X),)), (("x",), [(9,), (10,), ("",), ("1",)]))

    def test_a_body_that_binds_nothing(self):
        self.answers(PATH, ("ask", ()), ((), [()]))
        self.answers(PATH, ("ask", (fact("b", ANY, ANY),)), ((), [()]))
        self.answers(PATH, ("ask", (fact("a", ANY),)), ((), []))
        self.answers(PATH, ("ask", (fact("a", X),)), (("x",), []))
        self.answers([], ("ask", ()), ((), [()]))

    def test_great_integers(self):
        items = [("relation", "a", 1), fact("a", 10 ** 29)]
        self.answers(items, ("ask", (fact("a", X), ("is", "y", "*", X, X))), (("x", "y"), [(10 ** 29, 10 ** 58)]))

    def test_problems(self):
        self.refuses(PATH, ("ask", (fact("c", X),)), "no relation", "c")
        self.refuses(PATH, ("ask", (fact("b", X),)), "width", "b")
        self.refuses(PATH, ("ask", (("compare", "<", X, value(1)), fact("c", X))), "unbound", "x")


class WhyTest(StatementCase):

    def test_accounts(self):
        self.answers(PATH, ("why", "b", (1, 2)), [("b", (1, 2), None, ())])
        self.answers(PATH, ("why", "p", (1, 3)), [("b", (1, 2), None, ()), ("p", (1, 2), "r1", (0,)),
                                                  ("b", (2, 3), None, ()), ("p", (1, 3), "r2", (1, 2))])
        self.answers(PATH, ("why", "p", (3, 1)), None)
        self.answers(PATH, ("why", "a", (1,)), None)

    def test_problems(self):
        self.refuses(PATH, ("why", "c", (1,)), "no relation", "c")
        for row in ((), (1,), (1, 2, 3)):
            self.refuses(PATH, ("why", "p", row), "width", "p")
            self.refuses(PATH, ("why", "b", row), "width", "b")


class WishTest(StatementCase):

    def test_wishes(self):
        pairs = [("b", (3, 4)), ("b", (1, 2)), ("b", (1, 3))]
        self.answers(PATH, ("wish", "p", (1, 3), False, pairs), [(pairs[1],)])
        self.answers(PATH, ("wish", "p", (1, 4), True, pairs), [(pairs[0],)])
        self.answers(PATH, ("wish", "b", (1, 3), True, pairs), [(pairs[2],)])
        self.answers(PATH, ("wish", "p", (1, 3), True, pairs), [()])
        self.answers(PATH, ("wish", "p", (9, 3), True, pairs), [])
        self.answers(PATH, ("wish", "p", (9, 3), True, []), [])

    def test_problems(self):
        good, bad = ("b", (1, 2)), (("p", (1, 2), "derived"), ("c", (1,), "no relation"), ("b", (1,), "width"))
        for name, row, problem in bad:
            self.refuses(PATH, ("wish", "p", (1, 2), True, [(name, row)]), problem, name)
            for other, wrong, _ in bad:
                self.refuses(PATH, ("wish", "p", (1, 2), True, [good, (name, row), (other, wrong)]), problem, name)
        self.refuses(PATH, ("wish", "c", (1, 2), True, [("p", (1,))]), "no relation", "c")
        self.refuses(PATH, ("wish", "p", (1,), True, [("p", (1,))]), "width", "p")
        self.refuses(PATH, ("wish", "p", (1, 2), True, [("p", ())]), "derived", "p")
        self.refuses(PATH, ("wish", "a", (), False, []), "width", "a")


class ShowTest(StatementCase):

    def test_items_that_are_no_facts(self):
        items = PATH + [denial("d", fact("p", X, X)), ("relation", "A", 3)]
        self.answers(items, ("show",), [item for item in plain.in_order(items) if item[0] != "fact"])
        self.answers([], ("show",), [])
        self.answers(BASE + [fact("a", 1)], ("show",), BASE)


class ManyTest(StatementCase):

    def test_statements_one_after_another(self):
        told = collections.Counter()
        for seed in range(400):
            chooser = random.Random(seed)
            items, state = [], State()
            for _ in range(25):
                statement = some_statement(chooser, items)
                (kind, answer), after = self.say(items, statement)
                if kind == "answer":
                    state = say(state, statement)[1]
                    rows = answer[1] if statement[0] == "ask" else answer
                    told[statement[0], "full" if rows else "bare"] += 1
                else:
                    told[statement[0], answer[0]] += 1
                self.assertEqual(state.all_items(), after)
                items = after
        problems = {"relation": ("exists", "columns"), "drop": ("no relation", "used"), "strike": ("no rule", "used"),
                    "add": ("derived", "no relation", "width"), "remove": ("derived", "no relation", "width"),
                    "rule": ("exists", "base", "width", "no relation", "unbound", "ring", "grows"),
                    "deny": ("exists", "unbound"), "allow": ("no denial",), "ask": ("unbound", "no relation"),
                    "why": ("no relation", "width"), "wish": ("no relation", "width", "derived"), "show": ()}
        for form in FORMS:
            self.assertGreater(told[form, "bare"] + told[form, "full"], 20, form)
            for problem in problems[form]:
                self.assertGreater(told[form, problem], 0, (form, problem))
        for form in ("ask", "why", "wish", "add", "remove"):
            self.assertGreater(min(told[form, "bare"], told[form, "full"]), 10, form)

    def test_what_is_elsewhere_has_no_effect(self):
        """Questions hang only on the relations that are reached."""
        elsewhere = [("relation", "k", 2), fact("k", 1, 1), fact("k", 0, "a"), rule("k1", "m", (X, Y), fact("k", X, Y)),
                     rule("k2", "m", (X, Z), fact("m", X, Y), fact("k", Y, Z)),
                     rule("k3", "n", (W,), fact("m", X, Y), ("is", "w", "+", X, value(1))),
                     rule("k4", "l", (X,), fact("n", X), fact("c", X, ANY), ("not", "m", (X, X)))]
        for seed in range(60):
            chooser = random.Random(seed)
            items = some_state(chooser, 4, 2)
            more = items + elsewhere
            self.assertTrue(plain_rules.is_sound(more))
            statement = Talk(chooser, items, 0, ("ask", "why", "wish")).statement()
            first, second = State(items), State(more)
            self.assertEqual(repr(say(first, statement)[0]), repr(say(second, statement)[0]))


if __name__ == "__main__":
    unittest.main()

import collections
import copy
import random
import unittest

from rulestead.checks import check_body, check_denial, check_rule, columns
from rulestead.errors import Refused, RuleError
from rulestead.states import State
from tests import plain_rules
from tests.chance import ANY, V, W, X, Y, Z, Shape, value

BASE = [("relation", "a", 1), ("relation", "b", 2), ("relation", "d", 4)]


def parts(state):
    return copy.deepcopy((state.relations, state.facts, state.rules, state.denials))


class ChecksCase(unittest.TestCase):

    def told(self, function, state, *args):
        """The problem, or None, of a function that returns None or raises Refused."""
        before, given = parts(state), copy.deepcopy(args)
        try:
            result = function(state, *args)
        except Refused as error:
            self.assertIs(type(error.problem), tuple)
            self.assertIsInstance(error, RuleError)
            self.assertIsInstance(error, ValueError)
            result = error.problem
        else:
            self.assertIsNone(result)
        self.assertEqual(parts(state), before)
        self.assertEqual(args, given)
        return result

    def body_told(self, state, body):
        """What check_body returns, and the problem that it raises."""
        before = parts(state)
        try:
            return check_body(state, body), None
        except Refused as error:
            self.assertIs(type(error.problem), tuple)
            return None, error.problem
        finally:
            self.assertEqual(parts(state), before)


class ColumnsTest(ChecksCase):

    def test_columns(self):
        state = State(BASE + [("rule", "r", "p", (X, X, X), (("fact", "a", (X,)),)), ("fact", "f", (1,)),
                              ("denial", "n", ())])
        known = {name: columns(state, name) for name in ("a", "b", "d", "p")}
        self.assertEqual(known, {"a": 1, "b": 2, "d": 4, "p": 3})
        for name in ("f", "n", "r", "none", ""):
            self.assertIsNone(columns(state, name))
        self.assertIsNone(columns(State(), "a"))

    def test_a_relation_that_is_only_in_bodies_is_not_there(self):
        state = State([("rule", "r", "p", (value(1),), (("fact", "q", (X,)),))])
        self.assertIsNone(columns(state, "q"))
        self.assertEqual(columns(state, "p"), 1)


class BodyTest(ChecksCase):

    def setUp(self):
        self.state = State(BASE + [("rule", "r", "p", (X, X, X), (("fact", "a", (X,)),)),
                                   ("fact", "lone", (1,))])

    def check(self, body, bound=None, problem=None):
        self.assertEqual(self.body_told(self.state, body), (bound, problem))

    def test_no_literals(self):
        self.check((), ())

    def test_the_order_of_variables(self):
        self.check((("fact", "b", (Y, X)), ("fact", "b", (X, Z)), ("fact", "a", (W,))), ("y", "x", "z", "w"))
        self.check((("fact", "b", (Y, Y)), ("is", "x", "+", Y, Y), ("count", "v", "b", (Z, Z)),
                    ("fact", "p", (Z, ANY, X))), ("y", "x", "v", "z"))
        self.check((("fact", "p", (ANY, value("x"), value(1))),), ())

    def test_what_is_returned(self):
        bound = check_body(self.state, (("fact", "a", (X,)),))
        self.assertIs(type(bound), tuple)

    def test_no_relation_and_width(self):
        for form in ("fact", "not"):
            self.check(((form, "none", ()),), None, ("no relation", "none"))
            self.check(((form, "lone", (value(1),)),), None, ("no relation", "lone"))
            self.check(((form, "r", (value(1),)),), None, ("no relation", "r"))
            for many in (0, 1, 3, 4):
                self.check(((form, "b", (ANY,) * many),), None, ("width", "b"))
            self.check(((form, "p", (ANY,) * 2),), None, ("width", "p"))
            self.check(((form, "p", (ANY,) * 3),), ())
            self.check(((form, "d", (ANY,) * 4),), ())
        self.check((("count", "x", "none", ()),), None, ("no relation", "none"))
        self.check((("count", "x", "p", (ANY,) * 4),), None, ("width", "p"))
        self.check((("count", "x", "p", (ANY,) * 3),), ("x",))

    def test_not(self):
        self.check((("not", "a", (X,)),), None, ("unbound", "x"))
        self.check((("not", "b", (value(1), ANY)),), ())
        self.check((("fact", "a", (X,)), ("not", "p", (X, Z, Y))), None, ("unbound", "z"))
        self.check((("fact", "a", (X,)), ("not", "b", (X, ANY))), ("x",))
        self.check((("not", "b", (X,)),), None, ("width", "b"))
        self.check((("not", "a", (X,)), ("fact", "a", (X,))), None, ("unbound", "x"))

    def test_compare(self):
        self.check((("compare", "<", X, ANY),), None, ("unbound", "x"))
        self.check((("compare", "<", ANY, X),), None, ("any",))
        self.check((("compare", "<", value(1), ANY),), None, ("any",))
        self.check((("compare", "<", value(1), X),), None, ("unbound", "x"))
        self.check((("compare", "<", value(1), value("x")),), ())
        self.check((("fact", "a", (X,)), ("compare", "=", X, X)), ("x",))

    def test_is(self):
        self.check((("is", "x", "+", X, ANY),), None, ("unbound", "x"))
        self.check((("is", "x", "+", ANY, X),), None, ("any",))
        self.check((("is", "x", "+", value(1), X),), None, ("unbound", "x"))
        self.check((("is", "x", "+", value(1), value("a")),), ("x",))
        self.check((("is", "x", "+", value(1), value(1)), ("is", "x", "*", X, X)), ("x",))
        self.check((("is", "y", "-", value(1), value(1)), ("compare", "<", X, Y)), None, ("unbound", "x"))

    def test_count(self):
        self.check((("count", "x", "b", (Y, X)),), None, ("own total", "x"))
        self.check((("fact", "a", (X,)), ("count", "x", "b", (X, ANY))), None, ("own total", "x"))
        self.check((("count", "x", "b", (X,)),), None, ("width", "b"))
        self.check((("count", "x", "none", (X,)),), None, ("no relation", "none"))
        self.check((("count", "x", "b", (value("x"), Y)),), ("x",))
        self.check((("count", "x", "b", (Z, Y)), ("compare", "<", X, Y)), None, ("unbound", "y"))
        self.check((("count", "x", "b", (Z, Y)), ("fact", "a", (Y,))), ("x", "y"))
        self.check((("fact", "a", (X,)), ("count", "x", "b", (Z, Y))), ("x",))

    def test_the_first_literal_with_a_problem_counts(self):
        self.check((("fact", "a", (X,)), ("compare", "<", ANY, Y), ("fact", "none", ())), None, ("any",))
        self.check((("fact", "b", (X,)), ("compare", "<", ANY, Y)), None, ("width", "b"))
        self.check((("fact", "none", (X,)), ("fact", "b", (X,))), None, ("no relation", "none"))

    def test_random_bodies(self):
        told = collections.Counter()
        for seed in range(4000):
            chooser = random.Random(seed)
            items = [("relation", name, chooser.randint(1, 4)) for name in "abc"]
            for at, name in enumerate("pqr"[:chooser.randrange(4)]):
                terms = tuple(value(at) for _ in range(chooser.randint(1, 4)))
                items.append(("rule", f"r{at}", name, terms, ()))
            state = State(items)
            for name, many in plain_rules.widths(items).items():
                self.assertEqual(columns(state, name), many)
            for name in ("p", "q", "r", "none"):
                self.assertEqual(columns(state, name), plain_rules.widths(items).get(name))
            faults = chooser.choice((0, 0.05, 0.1))
            body, _ = Shape(chooser, plain_rules.widths(items), faults).body(6)
            problem, bound = plain_rules.body_check(plain_rules.widths(items), body)
            self.assertEqual(self.body_told(state, body), (bound, problem), (items, body))
            told[problem[0] if problem else len(body)] += 1
            denial = ("denial", chooser.choice("mn"), body)
            full = items + [("denial", "n", ()), ("denial", "o", ())]
            self.assertEqual(self.told(check_denial, State(full), denial[1], body),
                             plain_rules.denial_problem(full, denial))
        kinds = list(range(7)) + ["no relation", "width", "unbound", "any", "own total"]
        self.assertEqual(set(told), set(kinds))
        self.assertGreater(min(told.values()), 30)


class DenialTest(ChecksCase):

    def test_exists_stands_before_the_body(self):
        state = State(BASE + [("denial", "n", ()), ("rule", "r", "p", (value(1),), ())])
        wrong = (("fact", "none", ()),)
        self.assertEqual(self.told(check_denial, state, "n", ()), ("exists", "denial", "n"))
        self.assertEqual(self.told(check_denial, state, "n", wrong), ("exists", "denial", "n"))
        self.assertEqual(self.told(check_denial, state, "r", wrong), ("no relation", "none"))
        self.assertIsNone(self.told(check_denial, state, "r", ()))
        self.assertIsNone(self.told(check_denial, state, "m", (("fact", "p", (X,)), ("not", "a", (X,)))))
        self.assertEqual(self.told(check_denial, state, "m", (("not", "a", (X,)),)), ("unbound", "x"))


class RuleTest(ChecksCase):

    def setUp(self):
        self.items = list(BASE)

    def offer(self, name, relation, terms, body):
        """What is told of a rule, in the state and in the plain one; it comes if it is accepted."""
        rule = ("rule", name, relation, terms, body)
        told = self.told(check_rule, State(self.items), name, relation, terms, body)
        self.assertEqual(told, plain_rules.rule_problem(self.items, rule))
        if told is None:
            self.items.append(rule)
        return told

    def test_ordinary_rules(self):
        self.assertIsNone(self.offer("r", "p", (X, Y), (("fact", "b", (X, Y)),)))
        self.assertIsNone(self.offer("s", "p", (X, Z), (("fact", "p", (X, Y)), ("fact", "b", (Y, Z)))))
        self.assertIsNone(self.offer("t", "q", (X,), (("fact", "a", (X,)), ("not", "p", (X, ANY)))))
        self.assertIsNone(self.offer("u", "g", (X, W), (("fact", "q", (X,)), ("count", "w", "p", (X, Y)))))
        self.assertIsNone(self.offer("v", "h", (V,), (("fact", "g", (X, W)), ("is", "v", "*", W, X))))

    def test_a_rule_without_a_body(self):
        self.assertIsNone(self.offer("r", "p", (value(1), value("a")), ()))
        self.assertEqual(self.offer("s", "p", (value(1), X), ()), ("unbound", "x"))

    def test_its_own_relation_counts_as_derived(self):
        self.assertIsNone(self.offer("r", "p", (X,), (("fact", "p", (X,)),)))
        self.assertEqual(self.offer("s", "q", (X,), (("fact", "q", (X, ANY)),)), ("width", "q"))
        self.assertEqual(self.offer("s", "q", (X,), (("fact", "p", (X,)), ("fact", "g", (X,)))), ("no relation", "g"))
        self.assertEqual(self.offer("s", "q", (value(1),), (("not", "q", (value(1),)),)), ("ring",))

    def test_the_order_of_problems(self):
        self.offer("r", "p", (X,), (("fact", "a", (X,)),))
        ring = ("not", "p", (ANY,))
        self.assertEqual(self.offer("r", "a", (), (("fact", "none", ()),)), ("exists", "rule", "r"))
        self.assertEqual(self.offer("s", "a", (), (("fact", "none", ()),)), ("base", "a"))
        self.assertEqual(self.offer("s", "a", (X,) * 5, ()), ("base", "a"))
        self.assertEqual(self.offer("s", "p", (), (("fact", "none", ()),)), ("width", "p"))
        self.assertEqual(self.offer("s", "p", (X, X), (("fact", "none", ()),)), ("width", "p"))
        self.assertEqual(self.offer("s", "p", (X,), (("fact", "none", ()),)), ("no relation", "none"))
        self.assertEqual(self.offer("s", "p", (X,), (("compare", "=", ANY, X), ring)), ("any",))
        self.assertEqual(self.offer("s", "p", (X,), (ring,)), ("unbound", "x"))
        self.assertEqual(self.offer("s", "p", (ANY,), (ring,)), ("any",))
        made = ("is", "x", "+", value(1), value(1))
        self.assertEqual(self.offer("s", "p", (X,), (made, ring)), ("ring",))
        self.assertEqual(self.offer("s", "p", (X,), (made, ("fact", "p", (X,)))), ("grows", "s"))
        self.assertIsNone(self.offer("s", "p", (X,), (made,)))

    def test_widths_of_heads(self):
        for many in (0, 5, 6):
            self.assertEqual(self.offer("r", "p", (value(1),) * many, ()), ("width", "p"))
            self.assertEqual(self.offer("r", "p", (X,) * many, (("fact", "none", ()),)), ("width", "p"))
        for many in (1, 2, 3, 4):
            self.assertIsNone(self.offer(f"r{many}", f"p{many}", (value(1),) * many, ()))
        self.assertEqual(self.offer("r", "p4", (value(1),) * 3, ()), ("width", "p4"))

    def test_head_terms_from_left_to_right(self):
        body = (("fact", "b", (X, Y)),)
        self.assertEqual(self.offer("r", "p", (X, Z, ANY), body), ("unbound", "z"))
        self.assertEqual(self.offer("r", "p", (X, ANY, Z), body), ("any",))
        self.assertEqual(self.offer("r", "p", (W, Z), body), ("unbound", "w"))
        self.assertEqual(self.offer("r", "p", (Y,), (("count", "x", "b", (Y, ANY)),)), ("unbound", "y"))
        self.assertIsNone(self.offer("r", "p", (X, value(7), X, Y), body))

    def test_rings(self):
        self.assertIsNone(self.offer("r1", "p", (X,), (("fact", "a", (X,)),)))
        self.assertIsNone(self.offer("r2", "q", (X,), (("fact", "p", (X,)),)))
        self.assertIsNone(self.offer("r3", "p", (X,), (("fact", "q", (X,)),)))
        for relation in "pq":
            for other in "pq":
                body = (("fact", "a", (X,)), ("not", other, (X,)))
                self.assertEqual(self.offer("r4", relation, (X,), body), ("ring",))
                body = (("fact", "a", (X,)), ("count", "y", other, (X,)))
                self.assertEqual(self.offer("r4", relation, (X,), body), ("ring",))
        self.assertIsNone(self.offer("r4", "s", (X,), (("fact", "a", (X,)), ("not", "p", (X,)))))
        self.assertEqual(self.offer("r5", "q", (X,), (("fact", "s", (X,)),)), ("ring",))
        self.assertIsNone(self.offer("r5", "s", (X,), (("fact", "s", (X,)), ("count", "y", "q", (X,)))))

    def test_a_ring_of_six_with_one_not_offered_last(self):
        names = ["c", "f", "e", "z", "y", "x"]
        for at in range(6):
            self.assertIsNone(self.offer(f"s{at}", names[at], (X,), (("fact", "a", (X,)),)))
        for at in range(5):
            self.assertIsNone(self.offer(f"r{at}", names[at], (X,), (("fact", names[at + 1], (X,)),)))
        body = (("fact", "a", (X,)), ("not", "c", (X,)))
        self.assertEqual(self.offer("r5", "x", (X,), body), ("ring",))
        body = (("fact", "a", (X,)), ("count", "w", "c", (ANY,)))
        self.assertEqual(self.offer("r5", "x", (X,), body), ("ring",))
        self.assertIsNone(self.offer("r5", "x", (X,), (("fact", "c", (X,)),)))

    def test_growing(self):
        made = ("is", "y", "+", X, value(1))
        self.assertEqual(self.offer("r", "p", (Y,), (("fact", "p", (X,)), made)), ("grows", "r"))
        self.assertIsNone(self.offer("r", "p", (Y,), (("fact", "a", (X,)), made)))
        bound = (("fact", "p", (X,)), ("fact", "a", (Y,)), made)
        self.assertIsNone(self.offer("s", "p", (Y,), bound))
        self.assertIsNone(self.offer("t", "p", (Y,), (("fact", "p", (X,)), ("count", "y", "a", (ANY,)))))
        counted = (("fact", "p", (X,)), ("count", "y", "a", (ANY,)), made)
        self.assertIsNone(self.offer("u", "p", (Y,), counted))

    def test_a_made_variable_that_the_head_does_not_have(self):
        body = (("fact", "p", (X,)), ("is", "y", "+", X, value(1)))
        self.assertEqual(self.offer("r", "p", (X,), body), ("grows", "r"))

    def test_a_made_variable_that_a_later_literal_has(self):
        body = (("is", "y", "+", value(1), value(1)), ("fact", "p", (Y,)))
        self.assertEqual(self.offer("r", "p", (Y,), body), ("grows", "r"))

    def test_the_first_rule_by_name_that_grows(self):
        body = (("fact", "q", (X,)), ("is", "y", "+", X, value(1)))
        self.assertIsNone(self.offer("k", "q", (X,), (("fact", "a", (X,)),)))
        self.assertIsNone(self.offer("c", "p", (Y,), body))
        self.assertIsNone(self.offer("b", "p", (Y,), body))
        self.assertEqual(self.offer("z", "q", (X,), (("fact", "p", (X,)),)), ("grows", "b"))
        self.assertEqual(self.offer("a", "q", (X,), (("fact", "p", (X,)),)), ("grows", "b"))
        grows = (("fact", "p", (X,)), ("is", "y", "+", X, value(1)))
        self.assertEqual(self.offer("a", "q", (X,), grows), ("grows", "a"))

    def test_growing_through_a_longer_ring(self):
        self.assertIsNone(self.offer("r1", "p", (X,), (("fact", "a", (X,)),)))
        body = (("fact", "p", (X,)), ("is", "y", "*", X, X))
        self.assertIsNone(self.offer("r2", "q", (Y,), body))
        self.assertIsNone(self.offer("r3", "s", (X,), (("fact", "q", (X,)),)))
        self.assertIsNone(self.offer("r4", "s", (X,), (("fact", "s", (X,)),)))
        self.assertEqual(self.offer("r0", "p", (X,), (("fact", "s", (X,)),)), ("grows", "r2"))

    def test_the_ring_of_another_rule_counts(self):
        self.items += [("rule", "x", "p", (value(1),), (("not", "p", (ANY,)),))]
        self.assertEqual(self.offer("r", "q", (value(1),), ()), ("ring",))
        self.items[-1] = ("rule", "x", "p", (Y,), (("fact", "p", (X,)), ("is", "y", "+", X, X)))
        self.assertEqual(self.offer("r", "q", (value(1),), ()), ("grows", "x"))

    def test_random_offers(self):
        told, most = collections.Counter(), 0
        for seed in range(900):
            chooser = random.Random(seed)
            self.items = [("relation", "a", 1), ("relation", "b", 2)]
            usual = {name: chooser.randint(1, 3) for name in "pqrs"}
            for _ in range(10):
                relation = chooser.choice("pppqqqrrrsssa")
                many = usual.get(relation, 1)
                if chooser.random() < 0.05:
                    many = chooser.randrange(6)
                known = {**plain_rules.widths(self.items), relation: many}
                if chooser.random() < 0.1:
                    known.update(usual)
                shape = Shape(chooser, known, chooser.choice((0, 0, 0.05)))
                body, bound = shape.body(4)
                name = chooser.choice("abcdefghijklmnopqrstuvwxyz")
                problem = self.offer(name, relation, shape.head(bound, many), body)
                told[problem and problem[0]] += 1
                if problem and problem[0] == "grows" and problem[1] != name:
                    told["other"] += 1
            most = max(most, len(self.items))
        kinds = ["exists", "base", "width", "no relation", "unbound", "any", "own total", "ring", "grows",
                 "other", None]
        self.assertEqual(set(told), set(kinds))
        self.assertGreater(min(told.values()), 5)
        self.assertGreater(most, 9)


if __name__ == "__main__":
    unittest.main()

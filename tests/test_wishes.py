import collections
import copy
import random
import time
import unittest

from rulestead.states import State
from rulestead.wishes import wish
from tests import plain_rules, plain_statements
from tests.chance import ANY, W, X, Y, Z, denial, fact, rule, some_denial, some_facts, some_rule, size_of, value

BASE = [("relation", "a", 1), ("relation", "b", 2)]
PATH = BASE + [rule("r1", "p", (X, Y), fact("b", X, Y)), rule("r2", "p", (X, Z), fact("p", X, Y), fact("b", Y, Z))]
VALUES = (0, 1, 2, "a")


class WishCase(unittest.TestCase):

    def wish(self, items, *asked):
        """What a wish is told; the plain version must tell the same."""
        state, kept = State(items), copy.deepcopy(asked)
        before = copy.deepcopy((state.relations, state.facts, state.rules, state.denials))
        told = wish(state, *asked)
        self.assertEqual(repr(told), repr(plain_statements.wish(items, *asked)), (items, asked))
        self.assertEqual((state.relations, state.facts, state.rules, state.denials), before)
        self.assertEqual(repr(asked), repr(kept))
        return told

    def check(self, items, relation, row, wanted, candidates, expected):
        told = self.wish(items, relation, row, wanted, candidates)
        self.assertEqual(told, expected)
        self.assertIs(type(told), list)
        for one in told:
            self.assertIs(type(one), tuple)
            for pair in one:
                self.assertIs(type(pair), tuple)
                self.assertIn(pair, candidates)


class SmallTest(WishCase):

    def test_nothing_has_to_be_turned(self):
        items = BASE + [fact("a", 1)]
        self.check(items, "a", (1,), True, [("a", (1,)), ("a", (2,))], [()])
        self.check(items, "a", (2,), False, [("a", (1,)), ("a", (2,))], [()])
        self.check(items, "a", (2,), False, [], [()])

    def test_no_set_grants(self):
        items = BASE + [fact("a", 1)]
        self.check(items, "a", (2,), True, [("a", (1,)), ("b", (2, 2))], [])
        self.check(items, "a", (1,), False, [], [])
        self.check(items, "p", (1,), True, [("a", (1,))], [])

    def test_a_fact_of_the_base(self):
        items = BASE + [fact("a", 1)]
        self.check(items, "a", (2,), True, [("a", (1,)), ("a", (2,))], [(("a", (2,)),)])
        self.check(items, "a", (1,), False, [("a", (2,)), ("a", (1,))], [(("a", (1,)),)])

    def test_sets_in_the_order_of_the_candidates(self):
        pairs = [("b", (1, 3)), ("b", (3, 2)), ("b", (1, 2)), ("b", (9, 9)), ("b", (1, 4)), ("b", (4, 2))]
        self.check(PATH, "p", (1, 2), True, pairs, [
            (pairs[2],), (pairs[0], pairs[1]), (pairs[4], pairs[5])])
        self.check(PATH, "p", (1, 2), True, pairs[::-1], [
            (pairs[2],), (pairs[5], pairs[4]), (pairs[1], pairs[0])])

    def test_what_shall_not_hold(self):
        pairs = [("b", (1, 3)), ("b", (3, 2)), ("b", (1, 2)), ("b", (5, 5))]
        items = PATH + [fact("b", *pair[1]) for pair in pairs]
        self.check(items, "p", (1, 2), False, pairs, [(pairs[0], pairs[2]), (pairs[1], pairs[2])])
        self.check(items, "p", (1, 2), False, pairs[:2], [])

    def test_what_is_turned_may_add_and_remove(self):
        items = PATH + [rule("s", "q", (X,), fact("a", X), ("not", "p", (X, X))), fact("b", 1, 1)]
        self.check(items, "q", (1,), True, [("b", (1, 1)), ("b", (2, 2)), ("a", (1,))],
                   [(("b", (1, 1)), ("a", (1,)))])

    def test_counts_and_sums(self):
        items = BASE + [fact("a", 1), rule("r", "p", (W,), ("count", "w", "a", (ANY,))),
                        rule("s", "q", (Y,), fact("p", X), ("is", "y", "*", X, value(10)))]
        pairs = [("a", (1,)), ("a", (2,)), ("a", (3,))]
        self.check(items, "q", (10,), True, pairs, [()])
        self.check(items, "q", (20,), True, pairs, [(pairs[1],), (pairs[2],)])
        self.check(items, "q", (30,), True, pairs, [(pairs[1], pairs[2])])
        self.check(items, "q", (0,), True, pairs, [(pairs[0],)])
        # One more and one less leave the count as it was, so no set of two is least.
        self.check(items, "q", (10,), False, pairs, [(pair,) for pair in pairs])

    def test_denials(self):
        denied = denial("d", fact("a", X), fact("a", Y), ("compare", "<", X, Y))
        pairs = [("a", (1,)), ("a", (2,)), ("a", (3,))]
        items = BASE + [fact("a", 1), denied]
        self.check(items, "a", (2,), True, pairs, [(pairs[0], pairs[1])])
        self.check(items, "a", (2,), True, pairs[1:], [])
        self.check(items + [denial("e", fact("a", value(2)))], "a", (2,), True, pairs, [])

    def test_a_denial_that_clashes_already(self):
        """The fact holds as it is wanted, but a denial clashes unless something is turned."""
        items = BASE + [fact("a", 1), fact("b", 1, 1), denial("d", fact("a", value(1)), fact("b", X, X))]
        pairs = [("a", (1,)), ("b", (1, 1)), ("b", (2, 2))]
        self.check(items, "b", (2, 2), False, pairs, [(pairs[0],), (pairs[1],)])
        self.check(items, "b", (2, 2), False, pairs[2:], [])
        self.check(items, "b", (2, 2), True, pairs, [(pairs[0], pairs[2])])

    def test_great_integers(self):
        items = BASE + [fact("a", 10 ** 29), rule("r", "p", (Y,), fact("a", X), ("is", "y", "*", X, X))]
        self.check(items, "p", (10 ** 58,), False, [("a", (10 ** 29,))], [(("a", (10 ** 29,)),)])
        self.check(items, "p", (10 ** 58,), True, [("a", (10 ** 29,))], [()])

    def test_what_is_told_is_new(self):
        state, candidates = State(BASE), [("a", (1,)), ("a", (2,))]
        told = wish(state, "a", (1,), True, candidates)
        candidates.clear()
        self.assertEqual(told, [(("a", (1,)),)])
        told.clear()
        self.assertEqual(wish(state, "a", (1,), True, [("a", (1,))]), [(("a", (1,)),)])

    def test_what_is_elsewhere_has_no_effect(self):
        pairs = [("b", (1, 3)), ("b", (3, 2)), ("b", (1, 2))]
        elsewhere = [("relation", "c", 2), fact("c", 1, 2), rule("t", "q", (X,), fact("c", X, Y), ("not", "a", (X,)))]
        told = self.wish(PATH, "p", (1, 2), True, pairs)
        self.assertEqual(self.wish(PATH + elsewhere, "p", (1, 2), True, pairs), told)
        # Candidates that are not reached are in no least set, unless a denial reaches them.
        more = [("c", (1, 2)), pairs[0], ("c", (2, 2)), pairs[1], ("a", (1,)), pairs[2]]
        self.assertEqual(self.wish(PATH + elsewhere, "p", (1, 2), True, more), told)
        denied = denial("d", fact("p", value(1), value(2)), fact("q", X))
        self.check(PATH + elsewhere + [denied], "p", (1, 2), True, more, [
            (more[0], pairs[2]), (more[4], pairs[2]), (more[0], pairs[0], pairs[1]), (pairs[0], pairs[1], more[4])])


# Rules in which facts need each other; the random ones give less.
LINKS = (
    ("p", (X,), (fact("a", X), fact("b", X, Y), fact("a", Y))), ("p", (Y,), (fact("p", X), fact("b", X, Y))),
    ("p", (X,), (fact("a", X), ("not", "b", (X, ANY)))), ("p", (W,), (("count", "w", "b", (X, ANY)),)),
    ("q", (X, Z), (fact("b", X, Y), fact("b", Y, Z))), ("q", (X, Z), (fact("q", X, Y), fact("b", Y, Z))),
    ("q", (X, Y), (fact("a", X), fact("a", Y), ("compare", "<>", X, Y))), ("q", (X, X), (fact("a", X),)),
    ("r", (X,), (fact("q", X, Y), fact("q", Y, X))), ("r", (X,), (fact("a", X), ("not", "q", (X, X)))),
    ("r", (W,), (fact("a", X), fact("a", Y), ("is", "w", "+", X, Y))), ("r", (X,), (fact("p", X), fact("q", X, ANY))),
    ("r", (W,), (fact("a", X), ("count", "w", "q", (X, Y)))))


class ManyTest(WishCase):

    def some_items(self, chooser):
        """Two relations of the base, derived ones, and up to 2 denials."""
        items = BASE + some_facts(chooser, {"a": 1, "b": 2}, 3, VALUES)
        for at in range(chooser.randint(1, 6)):
            new = ("rule", f"r{at}", *chooser.choice(LINKS))
            if chooser.random() < 0.3:
                new = some_rule(chooser, items, f"r{at}", {"p": 1, "q": 2, "r": 1}, 3)
            if plain_rules.rule_problem(items, new) is None and size_of(items + [new]) is not None:
                items.append(new)
        for name in "de"[:chooser.choice((0, 1, 1, 2))]:
            for _ in range(10):
                new = some_denial(chooser, items, name)
                if plain_rules.clash(items + [new]) is None or chooser.random() < 0.1:
                    items.append(new)
                    break
        return items

    def some_wish(self, chooser, items):
        """A fact that mostly comes or goes when some of the candidates are turned."""
        pool = [("a", (one,)) for one in VALUES] + [("b", (one, other)) for one in VALUES for other in VALUES]
        candidates = chooser.sample(pool, chooser.choice((0, 1, 2, 3, 4, 5, 6, 6, 7, 7)))
        some = chooser.sample(candidates, min(len(candidates), chooser.randint(1, 3)))
        first = plain_rules.model(items)
        second = plain_rules.model(plain_statements.turned(items, some))
        pairs = [(name, row, holds) for holds, one, other in ((True, second, first), (False, first, second))
                 for name in one for row in one[name] if row not in other[name]]
        pairs = [pair for pair in pairs if pair[0] in "pqr"] or pairs
        if not pairs or chooser.random() < 0.2:
            pairs = [(name, row, True) for name in first for row in first[name]] or [("a", (0,), False)]
        return (*chooser.choice(pairs), candidates)

    def test_random_wishes(self):
        told = collections.Counter()
        for seed in range(300):
            chooser = random.Random(seed)
            items = self.some_items(chooser)
            sets = self.wish(items, *self.some_wish(chooser, items))
            told["many"] += len(sets) > 1
            told["none"] += not sets
            told["more"] += any(len(one) > 1 for one in sets)
            told["least"] += sets == [()]
        self.assertGreater(min(told[kind] for kind in ("many", "none", "more", "least")), 15, told)

    def test_seven_candidates_are_answered_quickly(self):
        items = PATH + [fact("b", at, at + 1) for at in range(24)] + [denial("d", fact("p", X, X))]
        back = [("b", (at + 2, at)) for at in range(7)]
        start = time.process_time()
        self.assertEqual(wish(State(items), "p", (24, 0), True, back), [])
        self.assertLess(time.process_time() - start, 20)


if __name__ == "__main__":
    unittest.main()

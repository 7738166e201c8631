import collections
import copy
import random
import unittest

from rulestead.denials import clash, is_sound, least_sets
from rulestead.states import State
from tests import plain, plain_rules
from tests.chance import (
    ANY, V, W, X, Y, Z, Shape, denial, fact, rule, some_denial, some_row, some_state, value)

BASE = [("relation", "a", 1), ("relation", "b", 2)]


class DenialCase(unittest.TestCase):

    def told(self, function, *states):
        """What a function tells of states that are given as items; the states must stay."""
        made = [State(items) for items in states]
        before = [copy.deepcopy((one.relations, one.facts, one.rules, one.denials)) for one in made]
        told = function(*made)
        self.assertEqual([(one.relations, one.facts, one.rules, one.denials) for one in made], before)
        return told


class ClashTest(DenialCase):

    def check(self, items, expected):
        told = self.told(clash, items)
        self.assertEqual(told, expected)
        self.assertEqual(told, plain_rules.clash(items))
        if told is not None:
            self.assertIs(type(told), tuple)
            self.assertIs(type(told[1]), tuple)

    def test_no_clash(self):
        self.check([], None)
        self.check(BASE, None)
        self.check(BASE + [denial("d", fact("a", X))], None)
        self.check(BASE + [fact("a", 1), denial("d", fact("a", X), ("compare", ">", X, value(1)))], None)

    def test_the_first_denial_by_name(self):
        items = BASE + [fact("a", 1), denial("z", fact("a", X)), denial("y", fact("a", X), fact("a", Y)),
                        denial("x", fact("b", X, Y))]
        self.check(items, ("y", (1, 1)))
        self.check(items + [fact("b", 5, 4)], ("x", (5, 4)))
        self.check([items[-2]] + items[:-2] + items[-1:], ("y", (1, 1)))

    def test_the_first_row_in_the_order_of_rows(self):
        facts = [fact("b", *row) for row in (("a", 1), (3, "c"), (3, 20), (3, 3), (7, 1))]
        self.check(BASE + facts + [denial("d", fact("b", X, Y))], ("d", (3, 3)))
        self.check(BASE + facts + [denial("d", fact("b", ANY, X), ("compare", ">", X, value(1)))], ("d", (3,)))
        # The way that comes first does not have the first row of values.
        self.check(BASE + facts + [denial("d", fact("b", ANY, X))], ("d", (1,)))
        self.check(BASE + facts + [denial("d", fact("b", X, Y), ("is", "z", "-", value(0), Y),
                                          ("compare", "<", Z, value(-1)))], ("d", (3, 3, -3)))

    def test_values_in_the_order_in_which_variables_are_bound(self):
        items = BASE + [fact("b", 1, 2), fact("a", 9)]
        self.check(items + [denial("d", fact("b", Y, X), fact("a", W), ("count", "v", "a", (Z,)))],
                   ("d", (1, 2, 9, 1)))
        self.check(items + [denial("d", ("count", "v", "b", (ANY, ANY)), fact("b", V, V))], None)
        self.check(items + [denial("d", ("count", "v", "b", (ANY, ANY)), fact("b", V, X))], ("d", (1, 2)))

    def test_a_body_that_binds_nothing(self):
        self.check(BASE + [denial("d")], ("d", ()))
        self.check(BASE + [denial("d", ("not", "a", (ANY,)))], ("d", ()))
        self.check(BASE + [fact("a", 1), denial("d", ("not", "a", (ANY,)))], None)
        self.check(BASE + [fact("a", 1), denial("d", fact("a", ANY))], ("d", ()))

    def test_derived_relations(self):
        items = BASE + [fact("b", 1, 2), fact("b", 2, 1), rule("r", "p", (X, Y), fact("b", X, Y)),
                        rule("s", "p", (X, Z), fact("p", X, Y), fact("b", Y, Z)),
                        rule("t", "q", (X, Y), fact("a", X), fact("a", Y), ("not", "p", (X, Y)))]
        self.check(items + [denial("d", fact("p", X, X))], ("d", (1,)))
        self.check(items + [denial("d", fact("q", X, Y))], None)
        self.check(items + [fact("a", 1), fact("a", "k"), denial("d", fact("q", X, Y))], ("d", (1, "k")))

    def test_great_values(self):
        great = 10 ** 30 - 1
        items = BASE + [fact("a", great), denial("d", fact("a", X), ("is", "y", "*", X, X))]
        self.check(items, ("d", (great, great ** 2)))

    def test_random_states(self):
        clashes = collections.Counter()
        for seed in range(300):
            chooser = random.Random(seed)
            items = some_state(chooser, 3)
            for name in chooser.sample("klmno", chooser.randint(0, 4)):
                items.append(some_denial(chooser, items, name))
            told = self.told(clash, items)
            self.assertEqual(told, plain_rules.clash(items), items)
            clashes[told and len(told[1])] += 1
        self.assertGreater(min(clashes[many] for many in (None, 0, 1, 2)), 10)


class SoundTest(DenialCase):

    def check(self, items, expected):
        self.assertIs(self.told(is_sound, items), expected, items)
        self.assertIs(plain_rules.is_sound(items), expected)

    def test_sound_states(self):
        self.check([], True)
        self.check(BASE, True)
        self.check(BASE + [fact("a", 1), fact("b", 1, "x"), rule("r", "p", (X,), fact("a", X)),
                           rule("s", "p", (X,), fact("p", X), fact("b", X, ANY)),
                           rule("t", "q", (Y,), fact("p", X), ("is", "y", "+", X, X)),
                           denial("d", fact("q", X), ("not", "p", (X,)))], True)

    def test_a_denial_that_clashes_is_sound(self):
        self.check(BASE + [denial("d")], True)

    def test_facts(self):
        self.check([fact("a", 1)], False)
        self.check(BASE + [fact("a", 1), fact("c", 1)], False)
        self.check(BASE + [fact("c")], False)
        self.check(BASE + [rule("r", "p", (X,), fact("a", X)), fact("p", 1)], False)
        for row in ((), (1, 2), (1, 2, 3)):
            self.check(BASE + [fact("a", 1), fact("a", *row)], False)
        self.check(BASE + [fact("b", 1)], False)

    def test_a_relation_of_the_base_and_derived(self):
        self.check(BASE + [rule("r", "a", (X,), fact("a", X))], False)
        self.check(BASE + [rule("r", "a", (value(1),))], False)
        self.check(BASE + [rule("r", "c", (value(1),))], True)

    def test_widths_of_rules(self):
        one = rule("r", "p", (value(1),))
        self.check(BASE + [one, rule("s", "p", (value(1), value(2)))], False)
        self.check(BASE + [one, rule("s", "p", (value(2),))], True)
        for many in (0, 5):
            self.check(BASE + [rule("r", "p", (value(1),) * many)], False)
        self.check(BASE + [rule("r", "p", (value(1),) * 4)], True)

    def test_rules_that_are_not_accepted(self):
        for terms, body in (((X,), ()), ((ANY,), ()), ((X,), (fact("none", X),)), ((X,), (fact("b", X),)),
                            ((X,), (fact("a", X), ("not", "a", (Y,)))), ((X,), (fact("p", X, ANY),)),
                            ((X,), (("count", "x", "a", (X,)),)), ((X,), (fact("r", X),)),
                            ((X,), (fact("a", X), ("compare", "<", X, ANY)))):
            self.check(BASE + [rule("r", "p", terms, *body)], False)
            self.check(BASE + [rule("r", "p", terms, *body), rule("s", "p", (value(1),))], False)

    def test_rings(self):
        for name in "pq":
            items = BASE + [rule("r", "p", (X,), fact("a", X), ("not", "q", (X,)))]
            self.check(items + [rule("s", "q", (X,), fact("a", X))], True)
            self.check(items + [rule("s", "q", (X,), fact("a", X), fact("p", X))], False)
            self.check(items + [rule("s", "q", (X,), fact("a", X)), rule("t", "q", (X,), fact(name, X))], name == "q")
        self.check(BASE + [rule("r", "p", (W,), ("count", "w", "p", (ANY,)))], False)
        self.check(BASE + [rule("r", "p", (value(1),), ("not", "p", (ANY,)))], False)

    def test_growing(self):
        made = ("is", "y", "+", X, value(1))
        self.check(BASE + [rule("r", "p", (Y,), fact("p", X), made)], False)
        self.check(BASE + [rule("r", "p", (Y,), fact("p", X), fact("a", Y), made)], True)
        pair = [rule("r", "p", (Y,), fact("q", X), made), rule("s", "q", (X,), fact("a", X))]
        self.check(BASE + pair, True)
        self.check(BASE + pair + [rule("t", "q", (X,), fact("p", X))], False)

    def test_rules_that_need_each_other(self):
        """Each is accepted among the others, though neither would be alone."""
        pair = [rule("r", "p", (X,), fact("q", X)), rule("s", "q", (X,), fact("p", X))]
        self.check(BASE + pair, True)
        self.check(BASE + pair[:1], False)
        self.check(BASE + [rule("r", "p", (X,), fact("p", X))], True)

    def test_denials_that_are_not_accepted(self):
        for body in ((fact("none", X),), (fact("b", X),), (("not", "a", (X,)),), (("compare", "=", ANY, ANY),),
                     (("count", "x", "a", (X,)),), (fact("d", X),)):
            self.check(BASE + [denial("d", *body)], False)
            self.check(BASE + [denial("c"), denial("d", *body), denial("e")], False)

    def test_random_states(self):
        told = collections.Counter()
        for seed in range(2500):
            chooser = random.Random(seed)
            items = [("relation", name, chooser.choice((1, 2))) for name in "abc" if chooser.random() < 0.8]
            base = {item[1]: item[2] for item in items}
            for _ in range(chooser.randrange(4)):
                name = chooser.choice("abcabcpx" if chooser.random() < 0.2 else sorted(base) or "a")
                many = base.get(name, 1) + (chooser.random() < 0.1)
                items.append(fact(name, *some_row(chooser, many)))
            known = {**base, "p": 1, "q": 2}
            if chooser.random() < 0.3:
                known = {"a": 1, "b": 2, "c": 1, "p": 1, "q": 2}
            shape = Shape(chooser, known, chooser.choice((0, 0, 0, 0.05)))
            for name in chooser.sample("rstuv", chooser.randrange(5)):
                relation = chooser.choice("ppqqppqqa" if chooser.random() < 0.1 else "pq")
                body, bound = shape.body(3)
                many = known.get(relation, 1) + (chooser.random() < 0.03)
                items.append(("rule", name, relation, shape.head(bound, many), body))
            for name in "mn"[:chooser.randrange(3)]:
                items.append(("denial", name, shape.body(3)[0]))
            sound = self.told(is_sound, items)
            self.assertIs(sound, plain_rules.is_sound(items), items)
            told[sound] += 1
        self.assertGreater(min(told[True], told[False]), 400)

    def test_sound_states_that_are_put_together_by_offers(self):
        for seed in range(60):
            chooser = random.Random(seed)
            items = some_state(chooser)
            items.append(some_denial(chooser, items, "d"))
            chooser.shuffle(items)
            self.check(items, True)


class LeastSetsTest(DenialCase):

    def check(self, first, second, expected):
        told = self.told(least_sets, first, second)
        self.assertEqual(told, plain_rules.least_sets(first, second))
        self.assertEqual(told, expected)
        if told is not None:
            self.assertIs(type(told), list)
            self.assertTrue(all(type(one) is tuple for one in told))

    def come(self, *items):
        return tuple(("comes", item) for item in items)

    def test_nothing_has_to_be_left_out(self):
        self.check([], [], [()])
        self.check(BASE, BASE + [fact("a", 1)], [()])
        self.check(BASE + [denial("d", fact("a", X))], BASE + [fact("a", 1)], [()])

    def test_one_of_several(self):
        first = BASE + [denial("d", fact("a", X), fact("a", Y), ("compare", "<", X, Y))]
        second = first + [fact("a", 1), fact("a", 2)]
        self.check(first, second, [self.come(fact("a", 1)), self.come(fact("a", 2))])
        self.check(first, second + [fact("b", 1, 1)], [self.come(fact("a", 1)), self.come(fact("a", 2))])
        one, two, three = fact("a", 1), fact("a", 2), fact("a", 3)
        self.check(first, first + [three, two, one],
                   [self.come(one, two), self.come(one, three), self.come(two, three)])

    def test_smaller_sets_first(self):
        first = BASE + [denial("c", fact("a", value(1)), fact("a", value(3))),
                        denial("d", fact("a", value(2)), fact("a", value(3)))]
        second = first + [fact("a", at) for at in (1, 2, 3)]
        self.check(first, second, [self.come(fact("a", 3)), self.come(fact("a", 1), fact("a", 2))])

    def test_what_goes_is_a_piece_too(self):
        first = BASE + [fact("a", 1), fact("b", 1, 1), denial("d", fact("a", X), ("not", "b", (X, ANY)))]
        second = BASE + [fact("a", 1), fact("a", 2), first[-1]]
        gone = ("goes", (1, "b", (1, 1)))
        self.check(first, second, [(gone,) + self.come(fact("a", 2))])
        self.check(first, [item for item in first if item != fact("b", 1, 1)], [(gone,)])

    def test_no_set_frees(self):
        """The first state clashes already, and no piece is to blame."""
        first = BASE + [fact("a", 1), denial("d", fact("a", X))]
        self.check(first, first, [])
        self.check(first, first + [fact("a", 2)], [])
        self.check(first, BASE + [denial("d", fact("a", X))], [()])
        self.check([fact("none", 1)], [fact("none", 1)] + BASE, [])

    def test_relations_rules_and_denials(self):
        items = [("relation", "c", 1), fact("c", 1), rule("r", "p", (X,), fact("c", X)), denial("d", fact("p", X))]
        relation, row, made, denied = items
        # Without its rule or its relation the denial would not be accepted, so they cannot go alone.
        self.check([], items, [self.come(row), self.come(denied)])
        self.check(items[:2], items, [self.come(denied)])
        self.check(items[:3], items, [self.come(denied)])
        self.check([relation, made, denied], items, [self.come(row)])
        self.check([relation, row], [made, denied, ("relation", "c", 1), row], [self.come(denied)])

    def test_pieces_that_need_each_other(self):
        """What is left must be sound: no fact without its relation, no body without its rule."""
        relation, row = ("relation", "c", 1), fact("c", 1)
        first = BASE + [denial("d", fact("a", value(1)))]
        second = first + [relation, row, fact("a", 1)]
        self.check(first, second, [self.come(fact("a", 1))])
        first = [relation, row]
        self.check(first, [], [()])
        self.check(first, [relation], [()])
        made = [rule("r", "p", (X,), fact("q", X)), rule("s", "q", (X,), fact("a", X))]
        bad = denial("d", fact("a", value(1)), ("not", "q", (value(2),)))
        first = BASE + [fact("a", 1)]
        second = first + made + [bad]
        self.check(first, second, [self.come(bad)])

    def test_one_relation_in_the_place_of_another(self):
        first = BASE + [fact("a", 1)]
        second = [("relation", "a", 2), ("relation", "b", 2), fact("a", 1, 1), denial("d", fact("a", X, X))]
        self.check(first, second, [self.come(fact("a", 1, 1)), self.come(denial("d", fact("a", X, X)))])

    def test_a_rule_in_the_place_of_another(self):
        first = BASE + [fact("a", 1), rule("r", "p", (X,), fact("a", X), fact("a", value(2))),
                        denial("d", fact("p", X), ("not", "b", (X, X)))]
        new = rule("r", "p", (X,), fact("a", X))
        second = [item for item in first if item[0] != "rule"] + [new, fact("b", 2, 2)]
        self.check(first, second, [self.come(new)])

    def test_more_than_seven(self):
        first = BASE + [denial("d", fact("a", X), ("compare", ">", X, value(6)))]
        second = first + [fact("a", at) for at in range(8)]
        self.check(first, second, None)
        self.check(first, second[:-1], [()])
        self.check(first, second[:-2] + second[-1:], [self.come(fact("a", 7))])
        self.check(second, first, None)
        self.check(second[:-1], first, [()])
        self.check(first, first + [fact("a", at) for at in range(20)], None)

    def test_all_of_seven(self):
        first = BASE + [denial("d", fact("a", X))]
        rows = [fact("a", at) for at in range(7)]
        self.check(first, first + rows, [self.come(*rows)])
        first = BASE + [fact("a", 9)] + first[2:]
        self.check(first, first + rows, [])

    def test_sets_of_one_size(self):
        pairs = ((1, 5), (1, 6), (2, 5), (3, 4))
        first = BASE + [denial(f"d{one}{two}", fact("a", value(one)), fact("a", value(two))) for one, two in pairs]
        second = first + [fact("a", at) for at in range(1, 7)]
        told = least_sets(State(first), State(second))
        rows = [tuple(change[1][2][0] for change in one) for one in told]
        self.assertEqual(rows, [(1, 2, 3), (1, 2, 4), (1, 3, 5), (1, 4, 5), (3, 5, 6), (4, 5, 6)])
        self.check(first, second, told)

    def test_a_new_list_each_time(self):
        first, second = State(BASE), State(BASE + [fact("a", 1)])
        least_sets(first, second).clear()
        self.assertEqual(least_sets(first, second), [()])

    def change(self, chooser, items, at):
        """The items after what a statement could do to them."""
        form = chooser.randrange(9)
        base = plain_rules.of_sort(items, "relation")
        if form == 6 and chooser.random() < 0.3:
            return items + [some_denial(chooser, items, f"d{at}")]
        if form in (0, 1, 2, 3, 6) and base:
            _, name, many = chooser.choice(base)
            return items + [fact(name, *some_row(chooser, many, (0, 1, "a")))]
        if form == 4:
            return items + [("relation", f"k{at}", 1)]
        if form == 5:
            new = ("rule", f"r{at}", *self.some_head(chooser, items))
            return items + [new] if plain_rules.rule_problem(items, new) is None else items
        gone = chooser.choice(items) if items else None
        return [item for item in items if item != gone]

    def some_head(self, chooser, items):
        relation = chooser.choice("pqrs")
        known = {**plain_rules.widths(items)}
        many = known.setdefault(relation, chooser.choice((1, 2)))
        shape = Shape(chooser, known, values=(0, 1, "a"))
        body, bound = shape.body(3)
        return relation, shape.head(bound, many), body

    def some_first(self, chooser):
        """A state with denials that do not clash in it, most of the times."""
        items = some_state(chooser, 2, 2)
        for name in "mno":
            for _ in range(12):
                new = some_denial(chooser, items, name, 4)
                # Two facts that clash together leave a choice.
                if len(plain_rules.edges([("rule", "", "", (), new[2])])) < 2:
                    continue
                if plain_rules.clash(items + [new]) is None:
                    items.append(new)
                    break
        return items if chooser.random() < 0.9 else items + [some_denial(chooser, items, "p")]

    def some_second(self, chooser, items):
        """A state after some changes, up to 7 of which are seen at the end."""
        second, most = items, chooser.choice((3, 4, 5, 6, 7))
        for at in range(chooser.randint(2, 9)):
            made = plain.in_order(self.change(chooser, second, at))
            if plain_rules.is_sound(made) and len(plain.between(items, made)) <= most:
                second = made
        return second

    def test_random_changes(self):
        told = collections.Counter()
        for seed in range(160):
            chooser = random.Random(seed)
            items = self.some_first(chooser)
            for _ in range(5):
                second = self.some_second(chooser, items)
                if plain_rules.clash(second) is not None:
                    break
            sets = self.told(least_sets, items, second)
            self.assertEqual(sets, plain_rules.least_sets(items, second), (items, second))
            told[min(len(sets), 3)] += 1
            told["empty"] += sets == [()]
            told["long"] += any(len(one) > 1 for one in sets)
            told["sorts"] += any(change[0] == "comes" and change[1][0] in ("rule", "denial", "relation")
                                 or change[0] == "goes" and change[1][0] != 1 for one in sets for change in one)
        self.assertGreater(min(told[kind] for kind in (0, 1, 2, "empty", "long", "sorts")), 4)

    def test_seven_pieces_of_a_greater_state(self):
        """All 128 sets are looked at, each with a model of its own."""
        items = [("relation", "e", 2), denial("d", fact("p", X, X))]
        items += [fact("e", at, at + 1) for at in range(10)]
        items += [rule("a", "p", (X, Y), fact("e", X, Y)), rule("b", "p", (X, Z), fact("p", X, Y), fact("e", Y, Z))]
        back = [fact("e", at + 1, at) for at in range(7)]
        self.assertEqual(self.told(least_sets, items, items + back), [self.come(*back)])
        self.assertEqual(self.told(least_sets, items + [fact("e", 3, 3)], items + back + [fact("e", 3, 3)]), [])


if __name__ == "__main__":
    unittest.main()

import copy
import random
import unittest

from rulestead.bodies import head_row, ways
from tests import plain

BIG = 10 ** 30
W, X, Y, Z = [("variable", name) for name in "wxyz"]
ANY = ("any",)
ROWS = {"e": [(1, 2), (1, 3), (2, 3), (3, 3), ("1", 1)], "n": [(1,), (2,), ("a",)], "none": []}
RELATIONS = {"n": 1, "e": 2, "t": 3, "none": 2}
VALUES = (-2, -1, 0, 1, 2, 3, "", "0", "1", "a", "b", BIG - 1, 1 - BIG, BIG * BIG, "~" * 30)


def value(worth):
    return ("value", worth)


def sorted_rows(rows):
    facts = [("fact", "e", row) for row in rows]
    return [item[2] for item in plain.in_order(facts)]


def some_rows(chooser):
    """Rows for each relation, of few values so that many of them meet."""
    values = chooser.sample(VALUES, 3)
    rows = {}
    for name, columns in RELATIONS.items():
        many = 0 if name == "none" else chooser.randrange(8)
        rows[name] = sorted_rows([tuple(chooser.choice(values) for _ in range(columns)) for _ in range(many)])
    return rows, values


def some_body(chooser, values):
    """An accepted body of 0 to 6 literals (point [8])."""
    bound, body = [], []

    def term(names):
        kind = chooser.randrange(5)
        if kind < 3 and names:
            return ("variable", chooser.choice(names))
        return value(chooser.choice(values))

    def open_terms(names, columns):
        return tuple(ANY if chooser.randrange(6) == 0 else term(names) for _ in range(columns))

    for _ in range(chooser.randrange(7)):
        form = chooser.choice(("fact", "fact", "fact", "not", "compare", "is", "count"))
        name = chooser.choice(list(RELATIONS)) if chooser.randrange(3) else "e"
        columns = RELATIONS[name]
        variable = chooser.choice("vwxyz")
        if form == "fact":
            terms = open_terms("vwxyz", columns)
            body.append((form, name, terms))
            bound += [one[1] for one in terms if one[0] == "variable"]
        elif form == "not":
            body.append((form, name, open_terms(bound, columns)))
        elif form == "compare":
            body.append((form, chooser.choice(list(plain.SIGNS)), term(bound), term(bound)))
        elif form == "is":
            body.append((form, variable, chooser.choice("+-*"), term(bound), term(bound)))
            bound.append(variable)
        else:
            others = [one for one in "vwxyz" if one != variable]
            body.append((form, variable, name, open_terms(others, columns)))
            bound.append(variable)
    return tuple(body)


class WaysCase(unittest.TestCase):

    def check(self, body, expected, rows=None, lookups=None):
        """Fails unless these are the ways; the plain version must say the same."""
        rows = ROWS if rows is None else rows
        lookups = rows if lookups is None else lookups
        before = copy.deepcopy((body, rows, lookups))
        found = ways(body, rows, lookups)
        self.assertEqual(found, expected)
        self.assertEqual(plain.ways(body, rows, lookups), expected)
        self.assertEqual((body, rows, lookups), before)

    def values(self, body, rows=None, lookups=None):
        """The values of the ways of a body, without the rows."""
        rows = ROWS if rows is None else rows
        return [way[0] for way in ways(body, rows, rows if lookups is None else lookups)]


class FactTest(WaysCase):

    def test_a_body_without_literals_holds_once(self):
        self.check((), [({}, ())])
        self.check((), [({}, ())], {}, {})

    def test_kinds_of_what_is_returned(self):
        found = ways((("fact", "e", (X, Y)),), ROWS, {})
        self.assertIs(type(found), list)
        for way in found:
            self.assertIs(type(way), tuple)
            self.assertIs(type(way[0]), dict)
            self.assertIs(type(way[1]), tuple)

    def test_variables_are_bound_and_rows_in_order(self):
        self.check((("fact", "e", (X, Y)),), [({"x": row[0], "y": row[1]}, (row,)) for row in ROWS["e"]])

    def test_the_order_is_the_one_that_is_given(self):
        rows = {"n": [("b",), (3,), (1,)]}
        self.check((("fact", "n", (X,)),), [({"x": row[0]}, (row,)) for row in rows["n"]], rows)

    def test_values_and_any(self):
        self.check((("fact", "e", (value(1), Y)),), [({"y": 2}, ((1, 2),)), ({"y": 3}, ((1, 3),))])
        self.check((("fact", "e", (value("1"), Y)),), [({"y": 1}, (("1", 1),))])
        self.check((("fact", "e", (ANY, value(3))),), [({}, ((1, 3),)), ({}, ((2, 3),)), ({}, ((3, 3),))])
        self.check((("fact", "e", (ANY, ANY)),), [({}, (row,)) for row in ROWS["e"]])
        self.check((("fact", "e", (value(9), ANY)),), [])

    def test_a_variable_twice_in_one_literal(self):
        self.check((("fact", "e", (X, X)),), [({"x": 3}, ((3, 3),))])
        rows = {"t": [(1, 1, 1), (1, 1, 2), (1, 2, 1), (2, 1, 1), (2, 2, 2)]}
        self.check((("fact", "t", (X, X, X)),), [({"x": 1}, ((1, 1, 1),)), ({"x": 2}, ((2, 2, 2),))], rows)
        self.check((("fact", "t", (X, Y, X)),),
                   [({"x": 1, "y": 1}, ((1, 1, 1),)), ({"x": 1, "y": 2}, ((1, 2, 1),)),
                    ({"x": 2, "y": 2}, ((2, 2, 2),))], rows)

    def test_the_first_literal_leads_the_order(self):
        body = (("fact", "n", (X,)), ("fact", "n", (Y,)))
        names = [1, 2, "a"]
        self.check(body, [({"x": one, "y": two}, ((one,), (two,))) for one in names for two in names])

    def test_a_variable_of_an_earlier_literal(self):
        self.check((("fact", "e", (X, Y)), ("fact", "e", (Y, Z))),
                   [({"x": 1, "y": 2, "z": 3}, ((1, 2), (2, 3))), ({"x": 1, "y": 3, "z": 3}, ((1, 3), (3, 3))),
                    ({"x": 2, "y": 3, "z": 3}, ((2, 3), (3, 3))), ({"x": 3, "y": 3, "z": 3}, ((3, 3), (3, 3))),
                    ({"x": "1", "y": 1, "z": 2}, (("1", 1), (1, 2))),
                    ({"x": "1", "y": 1, "z": 3}, (("1", 1), (1, 3)))])

    def test_one_row_may_be_chosen_twice(self):
        self.check((("fact", "n", (value(1),)), ("fact", "n", (value(1),))), [({}, ((1,), (1,)))])

    def test_no_rows(self):
        self.check((("fact", "none", (X, Y)),), [])
        self.check((("fact", "e", (X, Y)), ("fact", "none", (X, Y)), ("fact", "n", (X,))), [])

    def test_facts_come_from_the_first_set_of_rows(self):
        self.check((("fact", "n", (X,)),), [({"x": 1}, ((1,),))], {"n": [(1,)]}, {"n": [(2,), (3,)]})
        self.check((("fact", "n", (X,)),), [], {"n": []}, {"n": [(2,)]})

    def test_great_integers(self):
        rows = {"n": [(-BIG,), (BIG - 1,), (BIG,), (BIG * BIG,), (10 ** 899,), (10 ** 899 + 1,)]}
        self.check((("fact", "n", (value(BIG),)),), [({}, ((BIG,),))], rows)
        self.check((("fact", "n", (X,)),), [({"x": row[0]}, (row,)) for row in rows["n"]], rows)
        self.check((("fact", "n", (value(10 ** 899),)),), [({}, ((10 ** 899,),))], rows)


class NotTest(WaysCase):

    def test_holds_if_no_row_is_met(self):
        self.check((("fact", "n", (X,)), ("not", "e", (X, ANY))), [({"x": "a"}, (("a",),))])
        self.check((("fact", "n", (X,)), ("not", "e", (ANY, X))), [({"x": "a"}, (("a",),))])
        self.check((("fact", "n", (X,)), ("not", "e", (X, X))), [({"x": row[0]}, (row,)) for row in ROWS["n"]])

    def test_values_and_any(self):
        self.check((("not", "e", (value(1), value(2))),), [])
        self.check((("not", "e", (value(1), value("2"))),), [({}, ())])
        self.check((("not", "e", (ANY, ANY)),), [])
        self.check((("not", "none", (ANY, ANY)),), [({}, ())])

    def test_looks_into_the_second_set_of_rows(self):
        body = (("fact", "n", (X,)), ("not", "n", (X,)))
        self.check(body, [({"x": 1}, ((1,),))], {"n": [(1,), (2,)]}, {"n": [(2,), (3,)]})
        self.check(body, [], {"n": [(2,)]}, {"n": [(2,), (3,)]})
        self.check(body, [({"x": 2}, ((2,),))], {"n": [(2,)]}, {"n": []})


class CompareTest(WaysCase):

    def test_each_operator_on_each_pair(self):
        ladder = (-BIG, -2, -1, 0, 9, 10, BIG, BIG + 1, "", "0", "10", "9", "a", "aa", "b")
        for operator, sides in plain.SIGNS.items():
            for at, first in enumerate(ladder):
                for to, second in enumerate(ladder):
                    holds = (at > to) - (at < to) in sides
                    body = (("compare", operator, value(first), value(second)),)
                    self.assertEqual(ways(body, {}, {}), [({}, ())] if holds else [], body)

    def test_integers_stand_before_strings(self):
        self.check((("compare", "<", value(BIG), value("")),), [({}, ())])
        self.check((("compare", "=", value(1), value("1")),), [])
        self.check((("compare", "<>", value(1), value("1")),), [({}, ())])
        self.check((("compare", ">=", value("0"), value(9)),), [({}, ())])

    def test_variables(self):
        self.check((("fact", "e", (X, Y)), ("compare", "<", X, Y)),
                   [({"x": row[0], "y": row[1]}, (row,)) for row in ROWS["e"][:3]])
        self.check((("fact", "e", (X, Y)), ("compare", ">", X, Y)), [({"x": "1", "y": 1}, (("1", 1),))])
        self.check((("fact", "n", (X,)), ("compare", "<=", value(2), X)),
                   [({"x": 2}, ((2,),)), ({"x": "a"}, (("a",),))])
        self.check((("fact", "n", (X,)), ("compare", "<>", X, X)), [])


class IsTest(WaysCase):

    def test_operators(self):
        for operator, result in (("+", 3), ("-", 11), ("*", -28)):
            body = (("is", "x", operator, value(7), value(-4)),)
            self.check(body, [({"x": result}, ())])

    def test_great_results(self):
        for operator, result in (("+", 2 * BIG - 2), ("-", 0), ("*", (BIG - 1) ** 2)):
            self.check((("is", "x", operator, value(BIG - 1), value(BIG - 1)),), [({"x": result}, ())])
        self.check((("is", "x", "-", value(1 - BIG), value(1)),), [({"x": -BIG}, ())])
        self.check((("is", "x", "*", value(BIG - 1), value(BIG - 1)), ("is", "x", "*", X, value(1)),
                    ("is", "y", "*", X, X)), [({"x": (BIG - 1) ** 2, "y": (BIG - 1) ** 4}, ())])

    def test_a_string_has_no_result(self):
        for operator in "+-*":
            self.check((("is", "x", operator, value("a"), value(2)),), [])
            self.check((("is", "x", operator, value(2), value("a")),), [])
            self.check((("is", "x", operator, value("1"), value("2")),), [])
        self.check((("fact", "n", (X,)), ("is", "y", "+", X, value(1))),
                   [({"x": 1, "y": 2}, ((1,),)), ({"x": 2, "y": 3}, ((2,),))])

    def test_a_variable_that_has_a_value(self):
        self.check((("fact", "e", (X, Y)), ("is", "y", "+", X, value(1))),
                   [({"x": 1, "y": 2}, ((1, 2),)), ({"x": 2, "y": 3}, ((2, 3),))])
        self.check((("fact", "e", (X, Y)), ("is", "x", "*", Y, value(1))), [({"x": 3, "y": 3}, ((3, 3),))])
        self.check((("fact", "n", (X,)), ("is", "x", "+", value(0), value(2))), [({"x": 2}, ((2,),))])

    def test_its_own_variable_as_a_term(self):
        self.check((("fact", "n", (X,)), ("is", "x", "+", X, value(1))), [])
        self.check((("fact", "n", (X,)), ("is", "x", "+", X, value(0))),
                   [({"x": 1}, ((1,),)), ({"x": 2}, ((2,),))])

    def test_the_result_is_used_later(self):
        self.check((("is", "x", "+", value(1), value(1)), ("fact", "e", (X, Y))),
                   [({"x": 2, "y": 3}, ((2, 3),))])
        self.check((("is", "x", "-", value(1), value(1)), ("is", "x", "-", value(2), value(2)),
                    ("is", "x", "-", value(2), value(1))), [])

    def test_a_bound_string_that_looks_like_the_result(self):
        self.check((("fact", "e", (value("1"), Y)), ("fact", "e", (X, Y)), ("is", "x", "+", Y, value(0))), [])


class CountTest(WaysCase):

    def test_all_rows(self):
        self.check((("count", "x", "e", (ANY, ANY)),), [({"x": 5}, ())])
        self.check((("count", "x", "none", (ANY, ANY)),), [({"x": 0}, ())])

    def test_a_variable_without_a_value_stands_for_any(self):
        self.check((("count", "x", "e", (Y, Z)),), [({"x": 5}, ())])
        self.check((("count", "x", "e", (value(1), Z)),), [({"x": 2}, ())])
        self.check((("count", "x", "e", (Y, value(3))),), [({"x": 3}, ())])

    def test_a_variable_that_stands_twice_stands_for_one_value(self):
        self.check((("count", "x", "e", (Y, Y)),), [({"x": 1}, ())])
        rows = {"t": [(1, 1, 1), (1, 1, 2), (1, 2, 1), (2, 1, 1), (2, 2, 2)]}
        self.check((("count", "x", "t", (Y, Y, Y)),), [({"x": 2}, ())], rows)
        self.check((("count", "x", "t", (Y, Z, Y)),), [({"x": 3}, ())], rows)
        self.check((("count", "x", "t", (Y, Y, Z)),), [({"x": 3}, ())], rows)

    def test_such_a_variable_has_no_value_afterwards(self):
        self.check((("count", "x", "e", (Y, ANY)), ("fact", "n", (Y,))),
                   [({"x": 5, "y": row[0]}, (row,)) for row in ROWS["n"]])
        self.check((("count", "x", "e", (Y, Y)), ("count", "z", "e", (value(1), Y))), [({"x": 1, "z": 2}, ())])

    def test_a_variable_that_has_a_value(self):
        self.check((("fact", "n", (Y,)), ("count", "x", "e", (Y, Z))),
                   [({"y": 1, "x": 2}, ((1,),)), ({"y": 2, "x": 1}, ((2,),)), ({"y": "a", "x": 0}, (("a",),))])
        self.check((("fact", "n", (Y,)), ("count", "x", "e", (Y, Y))),
                   [({"y": 1, "x": 0}, ((1,),)), ({"y": 2, "x": 0}, ((2,),)), ({"y": "a", "x": 0}, (("a",),))])

    def test_its_variable_has_a_value(self):
        self.check((("fact", "n", (X,)), ("count", "x", "e", (value(1), ANY))), [({"x": 2}, ((2,),))])
        self.check((("fact", "n", (X,)), ("count", "x", "none", (ANY, ANY))), [])
        rows = {"n": [(1,), ("1",)]}
        self.check((("fact", "n", (X,)), ("count", "x", "n", (value(1),))), [({"x": 1}, ((1,),))], rows)

    def test_looks_into_the_second_set_of_rows(self):
        body = (("fact", "n", (X,)), ("count", "y", "n", (ANY,)))
        self.check(body, [({"x": 1, "y": 3}, ((1,),))], {"n": [(1,)]}, {"n": [(2,), (3,), (4,)]})
        self.check(body, [({"x": 1, "y": 0}, ((1,),))], {"n": [(1,)]}, {"n": []})


class MixedTest(WaysCase):

    def test_all_forms_together(self):
        rows = {"e": [(1, 2), (1, 3), (2, 3), ("a", 1)], "n": [(1,), (2,), (3,)]}
        body = (("fact", "n", (X,)), ("count", "w", "e", (X, Y)), ("fact", "e", (X, Y)),
                ("not", "e", (Y, X)), ("compare", "<", X, W), ("is", "z", "+", Y, W))
        self.check(body, [({"x": 1, "w": 2, "y": 2, "z": 4}, ((1,), (1, 2))),
                          ({"x": 1, "w": 2, "y": 3, "z": 5}, ((1,), (1, 3)))], rows)

    def test_random_bodies(self):
        longest, holding = 0, {}
        for seed in range(6000):
            chooser = random.Random(seed)
            rows, values = some_rows(chooser)
            lookups, _ = some_rows(chooser)
            body = some_body(chooser, values)
            before = copy.deepcopy((body, rows, lookups))
            found = ways(body, rows, lookups)
            self.assertEqual(found, plain.ways(body, rows, lookups), (body, rows, lookups))
            self.assertEqual((body, rows, lookups), before)
            longest = max(longest, len(found))
            if found:
                holding[len(body)] = holding.get(len(body), 0) + 1
        # The bodies must not be so strange that there is nothing to compare.
        self.assertGreater(longest, 30)
        self.assertEqual(sorted(holding), [0, 1, 2, 3, 4, 5, 6])
        self.assertGreater(min(holding.values()), 30)

    def test_many_rows(self):
        rows = {"e": [(at, at + 1) for at in range(1000)]}
        body = (("fact", "e", (X, Y)), ("fact", "e", (Y, Z)), ("not", "e", (Z, X)), ("count", "w", "e", (Z, ANY)))
        expected = [({"x": at, "y": at + 1, "z": at + 2, "w": int(at < 998)}, ((at, at + 1), (at + 1, at + 2)))
                    for at in range(999)]
        self.assertEqual(ways(body, rows, rows), expected)

    def test_ways_share_nothing(self):
        rows = {"n": [(1,), (2,)]}
        for body in ((("fact", "n", (ANY,)),), (("fact", "n", (ANY,)), ("compare", "=", value(1), value(1))),
                     (("is", "x", "+", value(1), value(1)), ("fact", "n", (ANY,)), ("fact", "n", (ANY,)))):
            found = ways(body, rows, rows)
            kept = copy.deepcopy(found)
            found[0][0]["new"] = 1
            self.assertEqual(found[1:], kept[1:])
            self.assertEqual(ways(body, rows, rows), kept)
        self.assertEqual(rows, {"n": [(1,), (2,)]})

    def test_the_empty_body_is_new_each_time(self):
        ways((), {}, {})[0][0]["x"] = 1
        self.assertEqual(ways((), {}, {}), [({}, ())])


class HeadTest(unittest.TestCase):

    def test_values_and_variables(self):
        values = {"x": 1, "y": "b", "z": BIG * BIG}
        self.assertEqual(head_row((X, Y), values), (1, "b"))
        self.assertEqual(head_row((Y, X, Y, Z), values), ("b", 1, "b", BIG * BIG))
        self.assertEqual(head_row((value("x"), value(7), X), values), ("x", 7, 1))
        self.assertEqual(head_row((value(1), value("1")), {}), (1, "1"))
        self.assertEqual(head_row((), values), ())
        self.assertIs(type(head_row((X,), values)), tuple)

    def test_what_is_passed_stays(self):
        values = {"x": 1}
        head_row((X, value(2)), values)
        self.assertEqual(values, {"x": 1})


if __name__ == "__main__":
    unittest.main()

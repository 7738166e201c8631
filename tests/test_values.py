import itertools
import random
import unittest

from rulestead.values import key_of, key_order, row_key, same_row, value_key
from tests import plain

# Each list is written in the order of point [4] or [6].
VALUES = [
    -(10 ** 900 - 1), -(10 ** 30), -(10 ** 30) + 1, -11, -10, -9, -2, -1, 0, 1, 2, 9, 10, 11,
    10 ** 30 - 1, 10 ** 30, 10 ** 900 - 1,
    "", " ", " ~", "!", "+1", "-1", "-2", "0", "00", "1", "1 ", "10", "2", "A", "Z", "_", "a", "a ",
    "aA", "a_", "aa", "a" * 29, "a" * 30, "a" * 28 + "b", "b", "~", "~" * 29, "~" * 30,
]
ROWS = [
    (), (-10,), (-10, "b"), (-9,), (-1, 5), (0,), (0, -1), (0, 0), (0, 0, 0), (0, 0, 0, 0), (0, 0, 0, 1),
    (0, 0, "0"), (0, 1), (0, ""), (1,), (1, 1), (1, 10 ** 30), (1, "", 4), (1, "1"), (2,), (10,),
    (10 ** 30 - 1,), ("",), ("", -1), ("", ""), ("1",), ("1", 1), ("1", "1"), ("10",), ("10", 0),
    ("2",), ("a", "b", "c", "d"), ("a", "b", "d"), ("ab",), ("b",), ("~" * 30,),
]
NAMES = ["a", "a0", "a1", "a10", "a2", "a_", "aa", "ab", "abcdefghijkl", "abd", "b"]
KEYS = ([(0, name, ()) for name in NAMES] + [(1, name, row) for name in NAMES for row in ROWS]
        + [(2, name, ()) for name in NAMES] + [(3, name, ()) for name in NAMES])
BODY = (("fact", "e", (("any",),)),)


class OrderTest(unittest.TestCase):

    def check_order(self, function, ordered):
        made = [function(one) for one in ordered]
        self.assertTrue(all(type(one) is tuple for one in made))
        for at, to in itertools.product(range(len(made)), repeat=2):
            if (made[at] < made[to], made[at] == made[to]) != (at < to, at == to):
                self.fail(f"{ordered[at]!r} and {ordered[to]!r}")

    def test_values(self):
        self.check_order(value_key, VALUES)

    def test_rows(self):
        self.check_order(row_key, ROWS)
        self.check_order(row_key, [(value,) for value in VALUES])
        self.check_order(row_key, [("x", 7, 0, value) for value in VALUES])

    def test_keys(self):
        self.check_order(key_order, KEYS)

    def test_the_plain_order_is_the_same(self):
        for ordered, order in ((VALUES, plain.order), (ROWS, plain.row_order)):
            for at, to in itertools.product(range(len(ordered)), repeat=2):
                self.assertEqual(order(ordered[at], ordered[to]), (at > to) - (at < to))

    def test_rows_of_few_values(self):
        values = (0, 1, -1, "", "0", "1")
        rows = [row for many in range(4) for row in itertools.product(values, repeat=many)]
        made = [row_key(row) for row in rows]
        chooser = random.Random(4)
        for _ in range(20000):
            at, to = chooser.randrange(len(rows)), chooser.randrange(len(rows))
            side = plain.row_order(rows[at], rows[to])
            self.assertEqual((made[at] > made[to]) - (made[at] < made[to]), side)
            self.assertEqual(made[at] == made[to], side == 0)

    def test_equal_rows_have_equal_keys(self):
        self.assertEqual(value_key(int("1" * 30)), value_key(int("1" * 30)))
        self.assertEqual(value_key("".join(["a", "b"])), value_key("ab"))
        self.assertEqual(row_key((1, "".join(["a", "b"]))), row_key((1, "ab")))
        self.assertEqual(key_order((1, "e", tuple([1, "b"]))), key_order((1, "e", (1, "b"))))


class SameRowTest(unittest.TestCase):

    def test_each_two_rows(self):
        for first, second in itertools.product(ROWS, repeat=2):
            self.assertIs(same_row(first, second), first is second)

    def test_kinds_and_lengths(self):
        self.assertIs(same_row((1,), ("1",)), False)
        self.assertIs(same_row((1, "1"), ("1", 1)), False)
        self.assertIs(same_row((1,), (1, 2)), False)
        self.assertIs(same_row((1, 2), (1,)), False)
        self.assertIs(same_row((), (0,)), False)
        self.assertIs(same_row(("",), ()), False)
        self.assertIs(same_row((1, "a", 10 ** 30), tuple([1, "a", 10 ** 30])), True)
        self.assertIs(same_row((), ()), True)
        self.assertIs(same_row((10 ** 899,), (10 ** 899 + 1,)), False)


class KeyTest(unittest.TestCase):

    def test_an_item_of_each_sort(self):
        self.assertEqual(key_of(("relation", "e", 2)), (0, "e", ()))
        self.assertEqual(key_of(("fact", "e", (1, "b"))), (1, "e", (1, "b")))
        self.assertEqual(key_of(("fact", "e", ())), (1, "e", ()))
        self.assertEqual(key_of(("rule", "r", "p", (("value", 1),), BODY)), (2, "r", ()))
        self.assertEqual(key_of(("denial", "d", BODY)), (3, "d", ()))

    def test_items_of_one_name_have_different_keys(self):
        items = [("relation", "e", 2), ("fact", "e", ()), ("fact", "e", (1,)), ("fact", "e", ("1",)),
                 ("rule", "e", "e", (), ()), ("denial", "e", ())]
        self.assertEqual(len({key_of(item) for item in items}), len(items))

    def test_content_is_not_in_the_key(self):
        self.assertEqual(key_of(("relation", "e", 2)), key_of(("relation", "e", 3)))
        self.assertEqual(key_of(("rule", "r", "p", (), ())), key_of(("rule", "r", "q", (), BODY)))
        self.assertEqual(key_of(("denial", "d", ())), key_of(("denial", "d", BODY)))


if __name__ == "__main__":
    unittest.main()

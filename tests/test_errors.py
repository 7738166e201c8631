import copy
import unittest

from rulestead import errors
from rulestead.errors import Denied, Refused, RuleError

PLAIN = ("InvalidArgument", "TransactionOpen", "NoTransaction", "NoSavepoint", "DiskFull",
         "PowerOff", "DatabaseOpen", "DatabaseClosed", "DamagedData")
PIECES = (("comes", ("fact", "e", (1, "b"))), ("goes", (2, "r", ())))


class ErrorsTest(unittest.TestCase):

    def test_all_are_rule_errors_and_value_errors(self):
        self.assertEqual(RuleError.__bases__, (ValueError,))
        for name in PLAIN + ("Refused", "Denied"):
            with self.subTest(name):
                self.assertTrue(issubclass(getattr(errors, name), RuleError))

    def test_no_plain_error_is_another_one(self):
        for name in PLAIN:
            for other in PLAIN + ("Refused", "Denied"):
                if name != other:
                    self.assertFalse(issubclass(getattr(errors, name), getattr(errors, other)))

    def test_plain_errors_are_raised_with_and_without_words(self):
        for name in PLAIN + ("RuleError",):
            with self.subTest(name):
                kind = getattr(errors, name)
                with self.assertRaises(kind):
                    raise kind()
                with self.assertRaisesRegex(kind, "because"):
                    raise kind("because")

    def test_refused_has_its_problem(self):
        for problem in (("ring",), ("no relation", "e"), ("exists", "rule", "r")):
            error = Refused(problem)
            self.assertEqual(error.problem, problem)
            self.assertIs(type(error.problem), tuple)
            with self.assertRaises(RuleError) as caught:
                raise error
            self.assertEqual(caught.exception.problem, problem)

    def test_denied_has_its_attributes(self):
        error = Denied("d", (1, "b", 10 ** 40), [PIECES[:1], PIECES[1:]])
        self.assertEqual(error.denial, "d")
        self.assertEqual(error.row, (1, "b", 10 ** 40))
        self.assertEqual(error.sets, [PIECES[:1], PIECES[1:]])
        self.assertIs(type(error.sets), list)
        with self.assertRaises(RuleError):
            raise error

    def test_denied_without_sets(self):
        error = Denied("d", (), None)
        self.assertEqual((error.denial, error.row), ("d", ()))
        self.assertIsNone(error.sets)
        self.assertEqual(Denied("d", (), []).sets, [])

    def test_denied_keeps_its_sets_when_the_list_changes(self):
        sets = [PIECES]
        error = Denied("d", (1,), sets)
        before = str(error)
        sets.append(())
        self.assertEqual(error.sets, [PIECES])
        self.assertEqual(str(error), before)
        error.sets.clear()
        self.assertEqual(sets, [PIECES, ()])

    def test_attributes_belong_to_each_error(self):
        first, second = Refused(("ring",)), Refused(("columns",))
        self.assertEqual(first.problem, ("ring",))
        self.assertEqual(second.problem, ("columns",))

    def test_a_copy_has_the_attributes(self):
        self.assertEqual(copy.copy(Refused(("ring",))).problem, ("ring",))
        error = copy.deepcopy(Denied("d", (1,), [PIECES]))
        self.assertEqual((error.denial, error.row, error.sets), ("d", (1,), [PIECES]))


if __name__ == "__main__":
    unittest.main()

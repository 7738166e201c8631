import ast
import importlib
import pathlib
import unittest

FOLDER = pathlib.Path(__file__).resolve().parent.parent / "rulestead"
FILES = sorted(FOLDER.rglob("*.py"))
FUNCTIONS = {
    "values": ("value_key", "row_key", "same_row", "key_of", "key_order"),
    "states": ("between",),
    "bodies": ("ways", "head_row"),
    "checks": ("check_body", "check_rule", "check_denial", "columns"),
    "model": ("levels", "model", "heights"),
    "judge": ("accepts", "is_account", "why"),
    "denials": ("clash", "is_sound", "least_sets"),
    "wishes": ("wish",),
    "statements": ("say",),
    "codes": ("write_number", "write_value", "write_row", "write_body", "write_item", "write_change",
              "write_changes", "write_image"),
    "blocks": ("write_block", "read_block", "head", "read_head", "area_size", "area_start", "found"),
}
CLASSES = {
    "errors": {name: () for name in (
        "RuleError", "Refused", "Denied", "InvalidArgument", "TransactionOpen", "NoTransaction",
        "NoSavepoint", "DiskFull", "PowerOff", "DatabaseOpen", "DatabaseClosed", "DamagedData")},
    "states": {"State": ("all_items", "has", "copy", "change")},
    "transactions": {"Words": ("own", "say", "savepoint", "rollback_to", "again")},
    "codes": {"Reader": ("read_number", "read_value", "read_row", "read_body", "read_item", "read_change",
                         "read_changes", "read_image", "end")},
    "disk": {"Disk": ("size", "read", "pending", "counts", "write", "sync", "fail_after", "power", "is_on",
                      "losses")},
    "store": {"Store": ("fits", "commit")},
    "database": {"Database": ("session", "commits", "table", "watch"),
                 "Session": ("run", "begin", "commit", "rollback", "savepoint", "rollback_to"),
                 "Watch": ("turn",)},
}
# What the rules allow of Python's own library.
LIBRARY = {"itertools": ("product", "combinations", "permutations")}


class InterfaceTest(unittest.TestCase):

    def test_functions_are_defined_in_their_files(self):
        for file, names in FUNCTIONS.items():
            module = importlib.import_module("rulestead." + file)
            for name in names:
                self.assertEqual(getattr(module, name).__module__, module.__name__)

    def test_classes_are_defined_in_their_files_with_their_methods(self):
        for file, classes in CLASSES.items():
            module = importlib.import_module("rulestead." + file)
            for name, methods in classes.items():
                self.assertEqual(getattr(module, name).__module__, module.__name__)
                for method in methods:
                    self.assertIn(method, vars(getattr(module, name)))


class SubsetTest(unittest.TestCase):
    """Those rules of the subset of Python that can be seen at a glance."""

    def test_the_folder_holds_python_files_alone(self):
        for path in FOLDER.rglob("*"):
            if "__pycache__" not in path.parts and not path.is_dir():
                self.assertEqual(path.suffix, ".py", path)

    def test_characters_and_lengths(self):
        self.assertTrue(FILES)
        for path in FILES:
            lines = path.read_text(encoding="utf-8").split("\n")
            self.assertLessEqual(len(lines) - 1, 399, path)
            for line in lines:
                self.assertLessEqual(len(line), 120, path)
                self.assertTrue(all(" " <= character <= "~" for character in line), (path, line))

    def test_functions_are_short(self):
        for path in FILES:
            for node in ast.walk(ast.parse(path.read_text())):
                if isinstance(node, ast.FunctionDef):
                    self.assertLessEqual(node.end_lineno - node.lineno + 1, 40, (path, node.name))

    def test_imports_are_from_the_package(self):
        for path in FILES:
            for node in ast.walk(ast.parse(path.read_text())):
                self.assertNotIsInstance(node, ast.Import, path)
                if isinstance(node, ast.ImportFrom):
                    self.assertEqual(node.level, 0, path)
                    names = LIBRARY.get(node.module)
                    if names is None:
                        self.assertTrue(node.module.startswith("rulestead."), (path, node.module))
                    else:
                        self.assertTrue(all(one.name in names and not one.asname for one in node.names), path)

    def test_strings_have_no_percent_sign(self):
        for path in FILES:
            for node in ast.walk(ast.parse(path.read_text())):
                if isinstance(node, ast.Constant) and isinstance(node.value, str):
                    self.assertNotIn("%", node.value, path)


if __name__ == "__main__":
    unittest.main()

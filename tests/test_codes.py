import collections
import copy
import random
import unittest

from rulestead import codes
from rulestead.codes import Reader
from rulestead.errors import DamagedData
from rulestead.states import State
from tests import plain, plain_codes
from tests.chance import ANY, W, X, Y, denial, fact, rule, value
from tests.things import CHARACTERS, Some

# The end of a name of a write function and of a method of the Reader, and the plain version.
FORMS = {"number": plain_codes.number, "value": plain_codes.value, "row": plain_codes.row,
         "body": plain_codes.body, "item": plain_codes.item, "change": plain_codes.change,
         "changes": plain_codes.changes}
BODY = (fact("b", X, value(-1)), ("not", "b", (ANY, value(""))), ("compare", "<=", X, value("a")),
        ("is", "w", "*", X, Y), ("count", "v", "b", (X, ANY)))


def write(form, thing):
    return getattr(codes, "write_" + form)(thing)


def read(form, data):
    """What is read from bytes, and where the Reader stands then."""
    reader = Reader(data)
    thing = getattr(reader, "read_" + form)()
    return thing, reader.at


class CodesCase(unittest.TestCase):

    def check(self, form, thing, data=None):
        """The bytes of a thing are these, and from them the same thing is read, whatever follows."""
        kept = copy.deepcopy(thing)
        written = write(form, thing)
        self.assertEqual(repr(thing), repr(kept))
        self.assertIs(type(written), list)
        self.assertEqual(written, FORMS[form](thing))
        if data is not None:
            self.assertEqual(written, data)
        for rest in ([], [0], [1, 2, 3], [255] * 4):
            told, at = read(form, written + rest)
            self.assertEqual(repr(told), repr(thing))
            self.assertEqual(at, len(written))
        for end in range(len(written)) if len(written) < 40 else (0, 1, len(written) // 2, len(written) - 1):
            self.damaged(form, written[:end])

    def damaged(self, form, data):
        """No such thing is read from the bytes, which stay as they are."""
        kept = list(data)
        with self.assertRaises(DamagedData):
            read(form, data)
        self.assertEqual(data, kept)


class NumberTest(CodesCase):

    def test_numbers(self):
        for number, data in ((0, [0]), (1, [1]), (127, [127]), (128, [128, 1]), (129, [129, 1]), (255, [255, 1]),
                             (256, [128, 2]), (16383, [255, 127]), (16384, [128, 128, 1]), (300, [172, 2])):
            self.check("number", number, data)
        for bits in range(0, 420):
            self.check("number", 2 ** bits)
        for number in (10 ** 30 - 1, 10 ** 30, 10 ** 50, 2 ** 420 - 1):
            self.check("number", number)
        self.assertEqual(len(write("number", 2 ** 420 - 1)), 60)

    def test_numbers_that_are_damaged(self):
        for data in ([], [128], [255, 255], [128, 0], [129, 0], [255, 128, 0], [128] * 59 + [0], [128] * 60 + [1],
                     [255] * 60 + [1], [255] * 61, [128] * 200, [255] * 60):
            self.damaged("number", data)
        self.assertEqual(read("number", [255] * 59 + [127]), (2 ** 420 - 1, 60))
        self.assertEqual(read("number", [128] * 59 + [1]), (2 ** 413, 60))
        self.damaged("number", write("number", 2 ** 420))

    def test_zero_is_one_byte(self):
        self.assertEqual(read("number", [0, 0, 0]), (0, 1))


class ValueTest(CodesCase):

    def test_values(self):
        for thing, data in ((0, [0, 0, 0]), (5, [0, 0, 5]), (-5, [0, 1, 5]), (-300, [0, 1, 172, 2]), ("", [1, 0]),
                            ("a", [1, 1, 97]), ("5", [1, 1, 53]), ("~ !", [1, 3, 126, 32, 33])):
            self.check("value", thing, data)
        for thing in (10 ** 30 - 1, 1 - 10 ** 30, 10 ** 100, -10 ** 100, "a" * 30, "b" * 200, "\\\"'`{}"):
            self.check("value", thing)
        self.check("value", "".join(CHARACTERS))

    def test_great_integers_are_written(self):
        for thing in (10 ** 899, -10 ** 899):
            self.assertEqual(write("value", thing), plain_codes.value(thing))
            self.damaged("value", write("value", thing))

    def test_each_character(self):
        for code in range(256):
            if 32 <= code <= 126 and code != 37:
                self.assertEqual(read("value", [1, 1, code]), (chr(code), 3))
            else:
                self.damaged("value", [1, 1, code])
                self.damaged("value", [1, 2, 97, code])

    def test_values_that_are_damaged(self):
        for data in ([], [0], [0, 0], [0, 1, 0], [0, 2, 1], [0, 255, 1], [2], [2, 0, 0], [255], [128, 0, 0, 1],
                     [1], [1, 1], [1, 3, 97, 97], [1, 255, 255], [1, 129, 0, 97], [0, 0, 128, 0]):
            self.damaged("value", data)

    def test_rows(self):
        self.check("row", (), [0])
        self.check("row", (1, "b"), [2, 0, 0, 1, 1, 1, 98])
        self.check("row", ("", 0, -1, "a", 7), [5, 1, 0, 0, 0, 0, 0, 1, 1, 1, 1, 97, 0, 0, 7])
        for data in ([], [1], [1, 0, 0], [2, 0, 0, 1], [200], [128, 0], [1, 2, 0], [5, 1, 0, 1, 0]):
            self.damaged("row", data)


class ItemTest(CodesCase):

    def test_bodies(self):
        self.check("body", (), [0])
        self.check("body", (("fact", "e", ()),), [1, 0, 1, 101, 0])
        self.check("body", (("not", "e", (ANY, X)),), [1, 1, 1, 101, 2, 2, 1, 1, 120])
        self.check("body", (("count", "w", "e", (value(1), value("a"))),),
                   [1, 4, 1, 119, 1, 101, 2, 0, 0, 0, 1, 0, 1, 1, 97])
        for at, sign in enumerate(("=", "<>", "<", "<=", ">", ">=")):
            self.check("body", (("compare", sign, X, ANY),), [1, 2, at, 1, 1, 120, 2])
        for at, sign in enumerate("+-*"):
            self.check("body", (("is", "w", sign, value(2), X),), [1, 3, 1, 119, at, 0, 0, 0, 2, 1, 1, 120])
        self.check("body", BODY)

    def test_bodies_that_are_damaged(self):
        for data in ([1, 5, 1, 101, 0], [1, 255], [1, 2, 6, 2, 2], [1, 2, 128, 0, 2, 2], [1, 3, 1, 119, 3, 2, 2],
                     [1, 0, 1, 101, 1, 3], [1, 0, 1, 37, 0], [2, 0, 1, 101, 0], [1, 0, 1, 101, 2, 2], [9, 0, 0, 0]):
            self.damaged("body", data)

    def test_items(self):
        self.check("item", ("relation", "e", 2), [0, 1, 101, 2])
        self.check("item", ("relation", "", 300), [0, 0, 172, 2])
        self.check("item", fact("e", 1), [1, 1, 101, 1, 0, 0, 1])
        self.check("item", fact("e"), [1, 1, 101, 0])
        self.check("item", rule("r", "p", (X,), fact("e", X)),
                   [2, 1, 114, 1, 112, 1, 1, 1, 120, 1, 0, 1, 101, 1, 1, 1, 120])
        self.check("item", denial("d"), [3, 1, 100, 0])
        self.check("item", ("denial", "A b~", BODY))
        for data in ([], [4, 1, 101, 2], [0, 1, 101], [0, 1, 31, 2], [255, 1, 101, 2], [3, 1, 100], [1, 1, 101]):
            self.damaged("item", data)

    def test_changes(self):
        self.check("change", ("comes", ("relation", "e", 2)), [0, 0, 1, 101, 2])
        for sort in range(4):
            self.check("change", ("goes", (sort, "e", ())), [1, sort, 1, 101, 0])
            self.check("change", ("goes", (sort, "e", (1,))), [1, sort, 1, 101, 1, 0, 0, 1])
        self.check("changes", [], [0])
        self.check("changes", [("goes", (2, "r", ()))] * 2, [2, 1, 2, 1, 114, 0, 1, 2, 1, 114, 0])
        for data in ([], [2, 0, 1, 101, 2], [1, 4, 1, 101, 0], [1, 255, 1, 101, 0], [1, 2, 1, 101], [0]):
            self.damaged("change", data)
        for data in ([], [1], [2, 1, 2, 1, 114, 0], [200, 1, 2, 1, 114, 0], [129, 0, 1, 2, 1, 114, 0]):
            self.damaged("changes", data)

    def test_long_lists(self):
        some = Some(random.Random(1))
        self.check("changes", [some.change() for _ in range(130)])
        self.check("changes", [("goes", (0, "", ()))] * 128)
        self.check("row", (7,) * 130)


class ImageTest(CodesCase):

    def check_image(self, commits, items):
        state = State(items)
        data = codes.write_image(commits, state)
        self.assertIs(type(data), list)
        self.assertEqual(data, plain_codes.image(commits, items))
        self.assertEqual(state.all_items(), plain.in_order(items))
        for rest in ([], [0], [7, 255]):
            (told, made), at = read("image", data + rest)
            self.assertEqual((repr(told), at), (repr(commits), len(data)))
            self.assertIs(type(made), State)
            self.assertEqual((made.relations, made.facts, made.rules, made.denials), plain.parts(items))
        self.damaged("image", data[:-1])

    def test_images(self):
        self.assertEqual(codes.write_image(0, State()), [0, 0])
        self.assertEqual(codes.write_image(300, State([("relation", "e", 1)])), [172, 2, 1, 0, 1, 101, 1])
        self.check_image(0, [])
        self.check_image(5, [fact("e", 2), denial("d"), ("relation", "e", 1), fact("e", 1),
                             rule("r", "p", (X,), *BODY)])
        self.check_image(10 ** 40, [fact("none", 1), fact("none")])

    def test_items_in_any_order(self):
        items = [fact("e", 2), denial("d"), ("relation", "e", 1), fact("e", 1), rule("r", "p", (W,))]
        data = [7, 5] + sum([plain_codes.item(item) for item in items], [])
        (commits, state), at = read("image", data)
        self.assertEqual((commits, at, state.all_items()), (7, len(data), plain.in_order(items)))

    def test_the_last_one_of_several_with_one_key(self):
        items = [("relation", "e", 1), denial("d"), ("relation", "e", 3), denial("d", fact("e", X))]
        data = [0, 4] + sum([plain_codes.item(item) for item in items], [])
        self.assertEqual(read("image", data)[0][1].all_items(), items[2:])

    def test_images_that_are_damaged(self):
        for data in ([], [0], [128, 0, 0], [0, 1], [0, 2, 0, 1, 101, 1], [0, 1, 4, 1, 101, 1], [128, 0],
                     [0, 9, 0, 0, 0]):
            self.damaged("image", data)

    def test_random_images(self):
        for seed in range(200):
            chooser = random.Random(seed)
            some = Some(chooser)
            self.check_image(some.number(), some.items())


class ReaderTest(CodesCase):

    def test_one_thing_after_another(self):
        data = [172, 2, 0, 1, 5, 1, 1, 97, 0, 1, 0, 1, 101, 0, 3, 1, 100, 0, 1, 2, 1, 114, 0, 0, 7, 0]
        kept, reader = list(data), Reader(data)
        self.assertEqual(reader.at, 0)
        self.assertIs(type(reader.at), int)
        for method, told, at in (("number", 300, 2), ("value", -5, 5), ("value", "a", 8), ("row", (), 9),
                                 ("body", (("fact", "e", ()),), 14), ("item", denial("d"), 18),
                                 ("change", ("goes", (2, "r", ())), 23), ("changes", [], 24)):
            with self.assertRaises(DamagedData):
                reader.end()
            self.assertEqual(getattr(reader, "read_" + method)(), told)
            self.assertEqual(reader.at, at)
        commits, state = reader.read_image()
        self.assertEqual((commits, state.all_items(), reader.at), (7, [], 26))
        self.assertIsNone(reader.end())
        with self.assertRaises(DamagedData):
            reader.read_number()
        self.assertEqual(data, kept)

    def test_no_bytes(self):
        for form in (*FORMS, "image"):
            self.damaged(form, [])
        self.assertIsNone(Reader([]).end())

    def test_the_bytes_are_copied(self):
        data = [1, 2]
        reader = Reader(data)
        data[:] = [9]
        self.assertEqual((reader.read_number(), reader.read_number()), (1, 2))
        reader.end()

    def test_what_is_told_is_new(self):
        reader = Reader([0])
        reader.read_changes().append(1)
        reader.at = 0
        self.assertEqual(reader.read_changes(), [])


class ManyTest(CodesCase):

    def test_random_things(self):
        for seed in range(150):
            some = Some(random.Random(seed))
            for form in FORMS:
                self.check(form, some.thing(form))

    def spoilt(self, chooser, data):
        """The bytes with one of them changed, left out or put in, cut off, or bytes by chance."""
        form, at = chooser.randrange(5), chooser.randrange(len(data))
        byte = chooser.choice((0, 1, 2, 3, 4, 5, 6, 31, 32, 37, 126, 127, 128, 129, 255, chooser.randrange(256)))
        if form == 0:
            return data[:at] + [byte] + data[at + 1:]
        if form == 1:
            return data[:at] + data[at + 1:]
        if form == 2:
            return data[:at] + [byte] + data[at:]
        if form == 3:
            return data[:at]
        most = chooser.choice((3, 6, 127, 256))
        return [chooser.randrange(most) for _ in range(chooser.randrange(20))]

    def check_spoilt(self, form, data):
        """Either a thing is read whose bytes are just those that were read, or DamagedData is raised."""
        try:
            thing, at = read(form, data)
        except DamagedData:
            return "damaged"
        if form != "image":
            self.assertEqual(FORMS[form](thing), data[:at], data)
            return "read"
        commits, state = thing
        reader = Reader(data)
        self.assertEqual(reader.read_number(), commits)
        items = [reader.read_item() for _ in range(reader.read_number())]
        self.assertEqual(reader.at, at)
        self.assertEqual(plain_codes.number(commits) + plain_codes.several([plain_codes.item(item) for item in items]),
                         data[:at])
        self.assertEqual(state.all_items(), plain.in_order(items))
        return "read"

    def test_spoilt_bytes(self):
        told = collections.Counter()
        for seed in range(700):
            chooser = random.Random(seed)
            some = Some(chooser)
            for form in (*FORMS, "image"):
                if form == "image":
                    data = plain_codes.image(some.number(), some.items())
                else:
                    data = FORMS[form](some.thing(form))
                for _ in range(4):
                    told[form, self.check_spoilt(form, self.spoilt(chooser, data))] += 1
        for form in (*FORMS, "image"):
            self.assertGreater(min(told[form, "damaged"], told[form, "read"]), 100, form)


if __name__ == "__main__":
    unittest.main()

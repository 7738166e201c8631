"""Codes: how numbers, values, items, changes and images are written as lists of bytes, and read."""
from rulestead.errors import DamagedData
from rulestead.states import State

COMPARES = ("=", "<>", "<", "<=", ">", ">=")
RESULTS = ("+", "-", "*")
# The percent sign, 37, is no character of a string.
CHARACTERS_FROM_32 = " !\"#$"
CHARACTERS_FROM_38 = "&'()*+,-./0123456789:;<=>?@ABCDEFGHIJKLMNOPQRSTUVWXYZ[\\]^_`abcdefghijklmnopqrstuvwxyz{|}~"
MOST_BYTES = 60


def write_number(number):
    """The bytes of a natural number: seven bits in each, the lowest first."""
    made = []
    rest = number
    while rest > 127:
        made.append(128 + rest % 128)
        rest = rest // 128
    made.append(rest)
    return made


def write_list(parts):
    """The bytes of a list, of the lists of the bytes of its items."""
    made = write_number(len(parts))
    for part in parts:
        made.extend(part)
    return made


def write_text(text):
    """The bytes of a string or a name."""
    return write_number(len(text)) + [ord(character) for character in text]


def write_value(value):
    """The bytes of a value."""
    if isinstance(value, str):
        return [1] + write_text(value)
    return [0, int(value < 0)] + write_number(abs(value))


def write_row(row):
    """The bytes of a row."""
    return write_list([write_value(value) for value in row])


def write_term(term):
    """The bytes of a term."""
    if term[0] == "value":
        return [0] + write_value(term[1])
    if term[0] == "variable":
        return [1] + write_text(term[1])
    return [2]


def write_terms(terms):
    """The bytes of a list of terms."""
    return write_list([write_term(term) for term in terms])


def write_literal(literal):
    """The bytes of a literal."""
    if literal[0] == "fact":
        return [0] + write_text(literal[1]) + write_terms(literal[2])
    if literal[0] == "not":
        return [1] + write_text(literal[1]) + write_terms(literal[2])
    if literal[0] == "compare":
        _, operator, first, second = literal
        return [2, COMPARES.index(operator)] + write_term(first) + write_term(second)
    if literal[0] == "is":
        _, variable, operator, first, second = literal
        return [3] + write_text(variable) + [RESULTS.index(operator)] + write_term(first) + write_term(second)
    _, variable, relation, terms = literal
    return [4] + write_text(variable) + write_text(relation) + write_terms(terms)


def write_body(body):
    """The bytes of a body."""
    return write_list([write_literal(literal) for literal in body])


def write_item(item):
    """The bytes of an item."""
    if item[0] == "relation":
        return [0] + write_text(item[1]) + write_number(item[2])
    if item[0] == "fact":
        return [1] + write_text(item[1]) + write_row(item[2])
    if item[0] == "rule":
        _, name, relation, terms, body = item
        return [2] + write_text(name) + write_text(relation) + write_terms(terms) + write_body(body)
    return [3] + write_text(item[1]) + write_body(item[2])


def write_change(change):
    """The bytes of a change."""
    if change[0] == "comes":
        return [0] + write_item(change[1])
    sort, name, row = change[1]
    return [1, sort] + write_text(name) + write_row(row)


def write_changes(changes):
    """The bytes of a list of changes."""
    return write_list([write_change(change) for change in changes])


def write_image(commits, state):
    """The bytes of an image: a number of commits, and the items of a state in order."""
    return write_number(commits) + write_list([write_item(item) for item in state.all_items()])


def character_of(code):
    """The character with this code; DamagedData if a string cannot have it."""
    if 32 <= code <= 36:
        return CHARACTERS_FROM_32[code - 32]
    if 38 <= code <= 126:
        return CHARACTERS_FROM_38[code - 38]
    raise DamagedData("no character has this code")


class Reader:
    """Reads what is written in a list of bytes, one thing after another."""

    def __init__(self, data):
        self.data = list(data)
        self.at = 0

    def read_number(self):
        """A natural number."""
        number = 0
        weight = 1
        for many in range(MOST_BYTES):
            byte = self._read_byte()
            if byte == 0 and many > 0:
                raise DamagedData("the last byte of a number is needless")
            if byte < 128:
                return number + weight * byte
            number = number + weight * (byte - 128)
            weight = weight * 128
        raise DamagedData("a number has too many bytes")

    def read_value(self):
        """A value."""
        if self._read_choice(2) == 1:
            return self._read_text()
        negative = self._read_choice(2) == 1
        size = self.read_number()
        if negative and size == 0:
            raise DamagedData("zero is not negative")
        return -size if negative else size

    def read_row(self):
        """A row."""
        return tuple([self.read_value() for _ in range(self._read_many())])

    def read_body(self):
        """A body."""
        return tuple([self._read_literal() for _ in range(self._read_many())])

    def read_item(self):
        """An item."""
        sort = self._read_choice(4)
        name = self._read_text()
        if sort == 0:
            return ("relation", name, self.read_number())
        if sort == 1:
            return ("fact", name, self.read_row())
        if sort == 2:
            relation = self._read_text()
            terms = self._read_terms()
            return ("rule", name, relation, terms, self.read_body())
        return ("denial", name, self.read_body())

    def read_change(self):
        """A change."""
        if self._read_choice(2) == 0:
            return ("comes", self.read_item())
        sort = self._read_choice(4)
        name = self._read_text()
        return ("goes", (sort, name, self.read_row()))

    def read_changes(self):
        """A list of changes."""
        return [self.read_change() for _ in range(self._read_many())]

    def read_image(self):
        """The pair of the number of commits and the State of an image."""
        commits = self.read_number()
        return (commits, State([self.read_item() for _ in range(self._read_many())]))

    def end(self):
        """Raises DamagedData if bytes are left."""
        if self.at < len(self.data):
            raise DamagedData("bytes are left")

    def _read_byte(self):
        """The next byte."""
        if self.at >= len(self.data):
            raise DamagedData("the bytes end too soon")
        self.at += 1
        return self.data[self.at - 1]

    def _read_choice(self, many):
        """A byte that tells which of so many things it is."""
        byte = self._read_byte()
        if byte >= many:
            raise DamagedData("a byte is beyond its choice")
        return byte

    def _read_many(self):
        """The number of the items of a list, each of which has a byte at least."""
        many = self.read_number()
        if many > len(self.data) - self.at:
            raise DamagedData("a list has more items than bytes are left")
        return many

    def _read_text(self):
        """A string or a name."""
        return "".join([character_of(self._read_byte()) for _ in range(self._read_many())])

    def _read_term(self):
        """A term."""
        sort = self._read_choice(3)
        if sort == 0:
            return ("value", self.read_value())
        if sort == 1:
            return ("variable", self._read_text())
        return ("any",)

    def _read_terms(self):
        """A tuple of terms."""
        return tuple([self._read_term() for _ in range(self._read_many())])

    def _read_literal(self):
        """A literal."""
        sort = self._read_choice(5)
        if sort == 2:
            operator = COMPARES[self._read_choice(6)]
            first = self._read_term()
            return ("compare", operator, first, self._read_term())
        name = self._read_text()
        if sort == 0:
            return ("fact", name, self._read_terms())
        if sort == 1:
            return ("not", name, self._read_terms())
        if sort == 3:
            operator = RESULTS[self._read_choice(3)]
            first = self._read_term()
            return ("is", name, operator, first, self._read_term())
        relation = self._read_text()
        return ("count", name, relation, self._read_terms())

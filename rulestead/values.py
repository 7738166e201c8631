"""Values, rows and keys, and their orders."""


def value_key(value):
    """A tuple that orders values: integers first, then strings."""
    if isinstance(value, str):
        return (1, value)
    return (0, value)


def row_key(row):
    """A tuple that orders rows."""
    return tuple([value_key(value) for value in row])


def same_row(first, second):
    """True if two rows have equal values of the same kinds."""
    return row_key(first) == row_key(second)


def key_of(item):
    """The key of an item: its sort, its name and, for a fact, its row."""
    if item[0] == "relation":
        return (0, item[1], ())
    if item[0] == "fact":
        return (1, item[1], item[2])
    if item[0] == "rule":
        return (2, item[1], ())
    return (3, item[1], ())


def key_order(key):
    """A tuple that orders keys."""
    sort, name, row = key
    return (sort, name, row_key(row))

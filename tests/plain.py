"""Slow and plain versions of what the program does, to compare it with.

Nothing here uses the program, and each function follows the words of the document.
"""
import functools
import itertools

SORTS = ("relation", "fact", "rule", "denial")
SIGNS = {"=": (0,), "<>": (-1, 1), "<": (-1,), "<=": (-1, 0), ">": (1,), ">=": (0, 1)}


def order(first, second):
    """-1, 0 or 1, as two values stand to each other (point [4])."""
    if isinstance(first, int) and isinstance(second, str):
        return -1
    if isinstance(first, str) and isinstance(second, int):
        return 1
    if isinstance(first, int):
        return (first > second) - (first < second)
    for one, other in zip(first, second):
        if one != other:
            return -1 if ord(one) < ord(other) else 1
    return order(len(first), len(second))


def row_order(first, second):
    """-1, 0 or 1, as two rows stand to each other (point [4])."""
    for one, other in zip(first, second):
        if order(one, other):
            return order(one, other)
    return order(len(first), len(second))


def key_order(first, second):
    """-1, 0 or 1, as two keys stand to each other (point [6])."""
    return (order(first[0], second[0]) or order(first[1], second[1])
            or row_order(first[2], second[2]))


def key(item):
    return (SORTS.index(item[0]), item[1], item[2] if item[0] == "fact" else ())


def in_order(items):
    """The items in the order of keys; of several with one key the last one."""
    kept = {key(item): item for item in items}
    return [kept[at] for at in sorted(kept, key=functools.cmp_to_key(key_order))]


def changed(items, changes):
    """The items in the order of keys, after changes that are made one after another."""
    for kind, what in changes:
        gone = key(what) if kind == "comes" else what
        items = [item for item in items if key(item) != gone]
        if kind == "comes":
            items.append(what)
    return in_order(items)


def parts(items):
    """What the attributes of a state with these items are."""
    items = in_order(items)
    relations = {item[1]: item[2] for item in items if item[0] == "relation"}
    names = list(relations) + [item[1] for item in items if item[0] == "fact"]
    facts = {name: [item[2] for item in items if item[:2] == ("fact", name)] for name in names}
    rules = {item[1]: item[2:] for item in items if item[0] == "rule"}
    denials = {item[1]: item[2] for item in items if item[0] == "denial"}
    return relations, facts, rules, denials


def between(first, second):
    """The changes between two lists of items (point [7])."""
    first, second = in_order(first), in_order(second)
    keys = [key(item) for item in second]
    gone = [("goes", key(item)) for item in first if key(item) not in keys]
    return gone + [("comes", item) for item in second if item not in first]


def meet(terms, row, values):
    """The values after the terms met the row, or None (point [11])."""
    values = dict(values)
    for term, value in zip(terms, row):
        if term[0] == "variable":
            if order(values.setdefault(term[1], value), value) != 0:
                return None
        elif term[0] == "value" and order(term[1], value) != 0:
            return None
    return values


def worth(term, values):
    return term[1] if term[0] == "value" else values[term[1]]


def met_by(variable, result, values):
    return meet((("variable", variable),), (result,), values)


def after(literal, row, values, lookups):
    """The values after a literal, or None if it does not hold; `row` is for `fact`."""
    if literal[0] == "fact":
        return meet(literal[2], row, values)
    if literal[0] == "not":
        met = [one for one in lookups[literal[1]] if meet(literal[2], one, values) is not None]
        return None if met else values
    if literal[0] == "count":
        met = [one for one in lookups[literal[2]] if meet(literal[3], one, values) is not None]
        return met_by(literal[1], len(met), values)
    first, second = worth(literal[-2], values), worth(literal[-1], values)
    if literal[0] == "compare":
        return values if order(first, second) in SIGNS[literal[1]] else None
    if isinstance(first, str) or isinstance(second, str):
        return None
    results = {"+": first + second, "-": first - second, "*": first * second}
    return met_by(literal[1], results[literal[2]], values)


def ways(body, rows, lookups):
    """The ways of a body: each choice of rows is tried, in order (point [11])."""
    chosen = [literal for literal in body if literal[0] == "fact"]
    found = []
    for taken in itertools.product(*[rows[literal[1]] for literal in chosen]):
        left, values = list(taken), {}
        for literal in body:
            row = left.pop(0) if literal[0] == "fact" else None
            values = after(literal, row, values, lookups)
            if values is None:
                break
        else:
            found.append((values, taken))
    return found

"""A plain version of the written forms (point [26]). Nothing here uses the program."""
from tests import plain

SIGNS = ("=", "<>", "<", "<=", ">", ">=")


def number(worth):
    """The digits of seven bits, the lowest first, all but the last one with 128 added."""
    bits = format(worth, "b")
    bits = "0" * (-len(bits) % 7) + bits
    digits = [int(bits[at:at + 7], 2) for at in range(0, len(bits), 7)][::-1]
    return [128 + digit for digit in digits[:-1]] + digits[-1:]


def several(parts):
    return number(len(parts)) + sum(parts, [])


def text(worth):
    return number(len(worth)) + list(worth.encode("ascii"))


def value(worth):
    if isinstance(worth, str):
        return [1] + text(worth)
    return [0, 1 if worth < 0 else 0] + number(abs(worth))


def row(worth):
    return several([value(one) for one in worth])


def term(worth):
    return {"value": lambda: [0] + value(worth[1]), "variable": lambda: [1] + text(worth[1]),
            "any": lambda: [2]}[worth[0]]()


def terms(worth):
    return several([term(one) for one in worth])


def literal(worth):
    form, *told = worth
    if form in ("fact", "not"):
        return [("fact", "not").index(form)] + text(told[0]) + terms(told[1])
    if form == "compare":
        return [2, SIGNS.index(told[0])] + term(told[1]) + term(told[2])
    if form == "is":
        return [3] + text(told[0]) + ["+-*".index(told[1])] + term(told[2]) + term(told[3])
    return [4] + text(told[0]) + text(told[1]) + terms(told[2])


def body(worth):
    return several([literal(one) for one in worth])


def item(worth):
    sort, *told = worth
    if sort == "relation":
        return [0] + text(told[0]) + number(told[1])
    if sort == "fact":
        return [1] + text(told[0]) + row(told[1])
    if sort == "rule":
        return [2] + text(told[0]) + text(told[1]) + terms(told[2]) + body(told[3])
    return [3] + text(told[0]) + body(told[1])


def change(worth):
    if worth[0] == "comes":
        return [0] + item(worth[1])
    return [1, worth[1][0]] + text(worth[1][1]) + row(worth[1][2])


def changes(worth):
    return several([change(one) for one in worth])


def image(commits, items):
    return number(commits) + several([item(one) for one in plain.in_order(items)])

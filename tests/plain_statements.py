"""Slow and plain versions of wishes, statements and transactions (points [19] to [23]).

Nothing here uses the program. A state is a list of items in order; what is told of a statement is
`("answer", answer)` or `("problem", problem)`.
"""
import itertools

from tests import plain, plain_rules
from tests.plain_rules import of_sort

# Neither changes anything, whatever is answered.
QUESTIONS = ("ask", "why", "wish", "show")


def turned(items, candidates):
    """The items when these candidates are turned (point [19])."""
    for relation, row in candidates:
        item = ("fact", relation, row)
        items = [one for one in items if one != item] if item in items else items + [item]
    return plain.in_order(items)


def wish(items, relation, row, wanted, candidates):
    """All sets are looked at, and each one is compared with each other."""
    granting = []
    for size in range(len(candidates) + 1):
        for places in itertools.combinations(range(len(candidates)), size):
            made = turned(items, [candidates[at] for at in places])
            holds = row in plain_rules.model(made).get(relation, [])
            if holds == wanted and plain_rules.clash(made) is None:
                granting.append(places)
    least = [one for one in granting if not any(set(other) < set(one) for other in granting)]
    return [tuple(candidates[at] for at in places) for places in least]


def derived(items):
    return [item[2] for item in of_sort(items, "rule")]


def named(items, sort, name):
    return [item for item in of_sort(items, sort) if item[1] == name]


def user(items, relation):
    """The problem of a relation that stands in a body, rules before denials."""
    for sort in ("rule", "denial"):
        for item in of_sort(items, sort):
            for literal in item[-1]:
                if literal[0] in ("fact", "not") and literal[1] == relation:
                    return ("used", sort, item[1])
                if literal[0] == "count" and literal[2] == relation:
                    return ("used", sort, item[1])
    return None


def row_problem(items, relation, row):
    known = plain_rules.widths(items)
    if relation not in known:
        return ("no relation", relation)
    return None if known[relation] == len(row) else ("width", relation)


def base_problem(items, relation, row):
    if relation in derived(items):
        return ("derived", relation)
    return row_problem(items, relation, row)


def strike_problem(items, name):
    gone = named(items, "rule", name)
    if not gone:
        return ("no rule", name)
    others = [item for item in items if item != gone[0]]
    return None if gone[0][2] in derived(others) else user(others, gone[0][2])


def wish_problem(items, relation, row, candidates):
    problems = [row_problem(items, relation, row)]
    problems += [base_problem(items, *candidate) for candidate in candidates]
    return next((problem for problem in problems if problem), None)


def relation_problem(items, name, columns):
    if name in plain_rules.widths(items):
        return ("exists", "relation", name)
    return None if columns in (1, 2, 3, 4) else ("columns",)


def problem_of(items, statement):
    """The first problem of a statement, or None (the table of point [20])."""
    form, *told = statement
    if form == "relation":
        return relation_problem(items, *told)
    if form == "drop":
        return user(items, told[0]) if named(items, "relation", told[0]) else ("no relation", told[0])
    if form in ("add", "remove"):
        return base_problem(items, *told)
    if form == "rule":
        return plain_rules.rule_problem(items, statement)
    if form == "strike":
        return strike_problem(items, told[0])
    if form == "deny":
        return plain_rules.denial_problem(items, ("denial", *told))
    if form == "allow":
        return None if named(items, "denial", told[0]) else ("no denial", told[0])
    if form == "ask":
        return plain_rules.body_problem(items, told[0])
    if form == "why":
        return row_problem(items, *told)
    if form == "wish":
        return wish_problem(items, told[0], told[1], told[3])
    return None


def ask(items, body):
    rows = plain_rules.model(items)
    bound = plain_rules.bound_by(items, body)
    told = []
    for values, _ in plain_rules.ways(body, rows, rows):
        row = tuple(values[name] for name in bound)
        if row not in told:
            told.append(row)
    return bound, plain_rules.sorted_rows(told)


def answer_of(items, statement):
    form, *told = statement
    if form == "add":
        return ("fact", *told) not in items
    if form == "remove":
        return ("fact", *told) in items
    if form == "ask":
        return ask(items, *told)
    if form == "why":
        return plain_rules.why(items, plain_rules.table(items, plain_rules.model(items)), *told)
    if form == "wish":
        return wish(items, *told)
    if form == "show":
        return [item for item in plain.in_order(items) if item[0] != "fact"]
    return None


def after(items, statement):
    """The items after a statement without a problem."""
    form, *told = statement
    if form in ("relation", "rule"):
        items = items + [statement]
    elif form == "deny":
        items = items + [("denial", *told)]
    elif form == "add":
        items = items + [("fact", *told)]
    elif form == "remove":
        items = [item for item in items if item != ("fact", *told)]
    elif form == "drop":
        items = [item for item in items if item[0] not in ("relation", "fact") or item[1] != told[0]]
    elif form in ("strike", "allow"):
        sort = {"strike": "rule", "allow": "denial"}[form]
        items = [item for item in items if item[:2] != (sort, told[0])]
    return plain.in_order(items)


def say(items, statement):
    """The pair of what is told of a statement and the items after it."""
    problem = problem_of(items, statement)
    if problem is not None:
        return ("problem", problem), items
    return ("answer", answer_of(items, statement)), after(items, statement)


def has_mark(words, name):
    """True if a way back to this name is possible after these words."""
    names = []
    for form, what in words:
        if form == "savepoint":
            names.append(what)
        elif form == "back":
            while names[-1] != what:
                names.pop()
    return name in names


def run(words, items):
    """The pair of what is told of each statement and the items that words make (point [22]).

    Words are pairs: `say` and a statement, `savepoint` or `back` and a name."""
    marks, told = [], []
    for form, what in words:
        if form == "say":
            one, items = say(items, what)
            told.append(one)
        elif form == "savepoint":
            marks.append((what, items))
        else:
            while marks[-1][0] != what:
                marks.pop()
            items = marks[-1][1]
    return told, items


def own(words, items):
    """The items that words make, without the answers of questions."""
    return run([word for word in words if word[0] != "say" or word[1][0] not in QUESTIONS], items)[1]

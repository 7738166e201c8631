"""Slow and plain versions of checks, models, tables, accounts and least sets (points [8] to [18]).

Nothing here uses the program. A state is a list of items, and each function follows the words of
the document rather than the shortest way.
"""
import functools
import itertools

from tests import plain


def of_sort(items, sort):
    return [item for item in plain.in_order(items) if item[0] == sort]


def widths(items):
    """The number of columns of each relation (point [8])."""
    found = {item[2]: len(item[3]) for item in of_sort(items, "rule")}
    found.update({item[1]: item[2] for item in of_sort(items, "relation")})
    return found


def unbound(terms, bound):
    """The problem of terms that must have a value."""
    for term in terms:
        if term == ("any",):
            return ("any",)
        if term[0] == "variable" and term[1] not in bound:
            return ("unbound", term[1])
    return None


def misfit(known, relation, terms):
    if relation not in known:
        return ("no relation", relation)
    return ("width", relation) if known[relation] != len(terms) else None


def literal_problem(known, literal, bound):
    form = literal[0]
    if form == "fact":
        return misfit(known, literal[1], literal[2])
    if form == "not":
        named = [term for term in literal[2] if term != ("any",)]
        return misfit(known, literal[1], literal[2]) or unbound(named, bound)
    if form == "compare":
        return unbound(literal[2:], bound)
    if form == "is":
        return unbound(literal[3:], bound)
    own = ("own total", literal[1]) if ("variable", literal[1]) in literal[3] else None
    return misfit(known, literal[2], literal[3]) or own


def newly_bound(literal, bound):
    """The variables that a literal binds, without those that are bound already."""
    names = {"fact": lambda: [term[1] for term in literal[2] if term[0] == "variable"],
             "is": lambda: [literal[1]], "count": lambda: [literal[1]]}.get(literal[0], list)()
    return [name for at, name in enumerate(names) if name not in bound and name not in names[:at]]


def body_check(known, body):
    """The pair of the first problem, or None, and the variables that are bound until then."""
    bound = []
    for literal in body:
        problem = literal_problem(known, literal, bound)
        if problem:
            return problem, None
        bound += newly_bound(literal, bound)
    return None, tuple(bound)


def body_problem(items, body):
    return body_check(widths(items), body)[0]


def bound_by(items, body):
    return body_check(widths(items), body)[1]


def makes(body):
    bound = []
    for literal in body:
        new = newly_bound(literal, bound)
        if literal[0] == "is" and new:
            return True
        bound += new
    return False


def edges(items):
    """Triples of a head, a relation of the body and whether the edge goes below (point [9])."""
    found = []
    for item in of_sort(items, "rule"):
        for literal in item[4]:
            if literal[0] in ("fact", "not"):
                found.append((item[2], literal[1], literal[0] == "not"))
            elif literal[0] == "count":
                found.append((item[2], literal[2], True))
    return found


def leading(items):
    """The pairs of which the first relation leads to the second one by edges."""
    found = {edge[:2] for edge in edges(items)}
    while True:
        longer = {(one, last) for one, middle in found for other, last in found if middle == other}
        if longer <= found:
            return found
        found |= longer


def has_ring(items):
    led = leading(items)
    return any(below and (head == other or (other, head) in led) for head, other, below in edges(items))


def growing(items):
    """The names of the rules that grow."""
    led = leading(items)
    return [item[1] for item in of_sort(items, "rule") if makes(item[4])
            and any(edge[1] == item[2] or (edge[1], item[2]) in led for edge in edges([item]))]


def unnamed_problem(items, rule):
    """The first problem of a rule among items that do not have it, but for its name."""
    _, name, relation, terms, body = rule
    if any(item[1] == relation for item in of_sort(items, "relation")):
        return ("base", relation)
    others = [len(item[3]) for item in of_sort(items, "rule") if item[2] == relation]
    if any(width != len(terms) for width in others) or len(terms) not in (1, 2, 3, 4):
        return ("width", relation)
    problem, bound = body_check({**widths(items), relation: len(terms)}, body)
    problem = problem or unbound(terms, bound)
    if problem:
        return problem
    if has_ring(items + [rule]):
        return ("ring",)
    names = growing(items + [rule])
    return ("grows", min(names)) if names else None


def rule_problem(items, rule):
    """The first problem of a rule that is offered, or None (point [10])."""
    if any(item[1] == rule[1] for item in of_sort(items, "rule")):
        return ("exists", "rule", rule[1])
    return unnamed_problem(items, rule)


def denial_problem(items, denial):
    if any(item[1] == denial[1] for item in of_sort(items, "denial")):
        return ("exists", "denial", denial[1])
    return body_problem(items, denial[2])


def is_sound(items):
    """Point [18], each rule and each denial among the others."""
    items = plain.in_order(items)
    base = {item[1]: item[2] for item in of_sort(items, "relation")}
    if any(base.get(item[1]) != len(item[2]) for item in of_sort(items, "fact")):
        return False
    if any(item[2] in base for item in of_sort(items, "rule")):
        return False
    for item in of_sort(items, "rule"):
        if unnamed_problem([other for other in items if other != item], item):
            return False
    return not any(body_problem(items, item[2]) for item in of_sort(items, "denial"))


def ways(body, rows, lookups, values=None, taken=()):
    """The ways of a body, where each `fact` literal is tried with each row (point [11])."""
    values = values or {}
    if not body:
        return [(values, taken)]
    found = []
    choices = rows[body[0][1]] if body[0][0] == "fact" else [None]
    for row in choices:
        after = plain.after(body[0], row, values, lookups)
        if after is not None:
            now = taken if row is None else taken + (row,)
            found += ways(body[1:], rows, lookups, after, now)
    return found


def head(terms, values):
    return tuple(plain.worth(term, values) for term in terms)


def levels(items):
    """The greatest number of edges to lesser levels on any path from each relation (point [12])."""
    steps = []
    for item in of_sort(items, "rule"):
        steps += [(one, other, int(below or makes(item[4]))) for one, other, below in edges([item])]
    found = {name: 0 for name in widths(items)}
    for _ in found:
        found = {name: max([0] + [step + found[other] for one, other, step in steps if one == name])
                 for name in found}
    return found


def sorted_rows(rows):
    return sorted(rows, key=functools.cmp_to_key(plain.row_order))


def facts_of(items):
    """The rows of the facts of a state, with a list for each relation that is there."""
    found = {name: [] for name in widths(items)}
    for item in of_sort(items, "fact"):
        found.setdefault(item[1], []).append(item[2])
    return found


def add_round(rules, rows, lookups):
    """The rows, with all that the rules give in them in one round."""
    made = {name: list(known) for name, known in rows.items()}
    for _, _, relation, terms, body in rules:
        for values, _ in ways(body, rows, lookups):
            row = head(terms, values)
            if row not in made[relation]:
                made[relation].append(row)
    return made


def model(items):
    """Level by level, in rounds (point [13])."""
    rows, known = facts_of(items), levels(items)
    for level in range(max(known.values(), default=0) + 1):
        rules = [item for item in of_sort(items, "rule") if known[item[2]] == level]
        before = None
        while rows != before:
            before, rows = rows, add_round(rules, rows, rows)
    return {name: sorted_rows(known) for name, known in rows.items()}


def table(items, lookups):
    """The rows that rounds with all rules reach, each with the number of the round in which it came
    first, where `not` and `count` are looked up in `lookups` (points [13] and [14])."""
    rows, rules = facts_of(items), of_sort(items, "rule")
    found = {(name, row): 0 for name in rows for row in rows[name]}
    for height in itertools.count(1):
        made = add_round(rules, rows, lookups)
        if made == rows:
            break
        for name in made:
            for row in made[name]:
                found.setdefault((name, row), height)
        rows = made
    return {name: [(row, found[name, row]) for row in sorted_rows(rows[name])] for name in rows}


def is_table(items, told):
    """The first condition of point [15]."""
    known = widths(items)
    if type(told) is not dict or len(told) != len(known) or not all(name in told for name in known):
        return False
    for name, width in known.items():
        if type(told[name]) is not list:
            return False
        for pair in told[name]:
            if type(pair) is not tuple or len(pair) != 2 or type(pair[0]) is not tuple:
                return False
            if len(pair[0]) != width or any(type(value) not in (int, str) for value in pair[0]):
                return False
            if type(pair[1]) is not int or pair[1] < 0:
                return False
        rows = [pair[0] for pair in told[name]]
        if any(plain.row_order(one, other) != -1 for one, other in zip(rows, rows[1:])):
            return False
    return True


def accepts(items, told):
    """The four conditions of point [15], one after another."""
    if not is_table(items, told):
        return False
    known = {(name, row): height for name in told for row, height in told[name]}
    rows = {name: [pair[0] for pair in told[name]] for name in told}
    facts = [item[1:] for item in of_sort(items, "fact")]
    if any(known.get(fact) != 0 for fact in facts):
        return False
    given = {}
    for _, _, relation, terms, body in of_sort(items, "rule"):
        names = [literal[1] for literal in body if literal[0] == "fact"]
        for values, taken in ways(body, rows, rows):
            heights = [known[fact] for fact in zip(names, taken)]
            given.setdefault((relation, head(terms, values)), []).append(heights)
    for fact, height in known.items():
        if height == 0 and fact not in facts:
            return False
        if height and not any(all(one < height for one in heights) for heights in given.get(fact, [])):
            return False
    return all(fact in known for fact in given)


def is_account(items, rows, steps):
    """Point [16]; `rows` are those of the model."""
    facts = [item[1:] for item in of_sort(items, "fact")]
    rules = {item[1]: item[2:] for item in of_sort(items, "rule")}
    if len({step[:2] for step in steps}) < len(steps):
        return False
    for at, (relation, row, name, places) in enumerate(steps):
        if (relation, row) in facts:
            if name is not None or places != ():
                return False
            continue
        if name not in rules or rules[name][0] != relation:
            return False
        if any(place < 0 or place >= at for place in places):
            return False
        _, terms, body = rules[name]
        names = [literal[1] for literal in body if literal[0] == "fact"]
        used = [steps[place][:2] for place in places]
        if not any(list(zip(names, taken)) == used and head(terms, values) == row
                   for values, taken in ways(body, rows, rows)):
            return False
    return bool(steps)


def why(items, told, relation, row, steps=None):
    """The account of point [16], from the table of the model."""
    known = {(name, one): height for name in told for one, height in told[name]}
    rows = {name: [pair[0] for pair in told[name]] for name in told}
    steps = [] if steps is None else steps
    if (relation, row) not in known:
        return None
    if ("fact", relation, row) in items:
        return steps + [(relation, row, None, ())]
    for _, name, other, terms, body in of_sort(items, "rule"):
        if other != relation:
            continue
        names = [literal[1] for literal in body if literal[0] == "fact"]
        for values, taken in ways(body, rows, rows):
            facts = list(zip(names, taken))
            if head(terms, values) == row and all(known[fact] < known[relation, row] for fact in facts):
                for fact in facts:
                    if fact not in [step[:2] for step in steps]:
                        steps = why(items, told, fact[0], fact[1], steps)
                places = tuple([step[:2] for step in steps].index(fact) for fact in facts)
                return steps + [(relation, row, name, places)]
    raise AssertionError("a fact of the model has no reason")


def clash(items):
    """Point [17]."""
    rows = model(items)
    for _, name, body in of_sort(items, "denial"):
        bound = bound_by(items, body)
        found = [tuple(values[variable] for variable in bound) for values, _ in ways(body, rows, rows)]
        if found:
            return name, sorted_rows(found)[0]
    return None


def least_sets(first, second):
    """Point [18]: all sets are looked at, and each one is compared with each other."""
    pieces = plain.between(first, second)
    if len(pieces) > 7:
        return None
    free = []
    for size in range(len(pieces) + 1):
        for places in itertools.combinations(range(len(pieces)), size):
            rest = [piece for at, piece in enumerate(pieces) if at not in places]
            made = plain.changed(first, rest)
            if is_sound(made) and clash(made) is None:
                free.append(places)
    least = [places for places in free if not any(set(other) < set(places) for other in free)]
    return [tuple(pieces[at] for at in places) for places in least]

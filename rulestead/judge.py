"""The judge of tables, and accounts of facts."""
from rulestead.bodies import chosen_ways, fact_relations, head_row
from rulestead.checks import widths
from rulestead.given import all_given
from rulestead.model import least_heights, model
from rulestead.parts import part
from rulestead.values import row_key


def is_number(what):
    """True for an integer from 0; a boolean is none."""
    return isinstance(what, int) and not isinstance(what, bool) and what >= 0


def is_row(what):
    """True for a tuple of integers and strings."""
    if not isinstance(what, tuple):
        return False
    return all([isinstance(value, (int, str)) and not isinstance(value, bool) for value in what])


def is_pair(what, width):
    """True for a pair of a row of this width and a height."""
    if not isinstance(what, tuple) or len(what) != 2:
        return False
    return is_row(what[0]) and len(what[0]) == width and is_number(what[1])


def is_part(what, width):
    """True for a list of pairs, with rows of this width in order, each once."""
    if not isinstance(what, list) or not all([is_pair(pair, width) for pair in what]):
        return False
    found = [row_key(pair[0]) for pair in what]
    return all([found[at] < found[at + 1] for at in range(len(found) - 1)])


def is_table(state, table):
    """The first condition: the form of a table for a state."""
    known = widths(state)
    if not isinstance(table, dict) or len(table) != len(known):
        return False
    return all([name in table and is_part(table[name], known[name]) for name in known])


def has_facts(state, known):
    """The second condition: each fact of the state has the height 0."""
    return all([known.get((name, row)) == 0 for name in state.facts for row in state.facts[name]])


def least_given(given, known):
    """For each fact that is given, the least height that it may have but for the height 0;
    None if one is not known (the fourth condition)."""
    found = {}
    for fact, taken, _ in given:
        if fact not in known:
            return None
        least = max([known[one] + 1 for one in taken], default=1)
        found[fact] = min(least, found.get(fact, least))
    return found


def stands(state, fact, height, least):
    """The third condition for one fact of a table."""
    if height == 0:
        return state.has(fact[0], fact[1])
    return fact in least and least[fact] <= height


def rows_of(table):
    """The rows of a table, without their heights."""
    return {name: [pair[0] for pair in table[name]] for name in table}


def accepts(state, table):
    """True if the judge accepts the table for the state."""
    if not is_table(state, table):
        return False
    known = {(name, row): height for name in table for row, height in table[name]}
    if not has_facts(state, known):
        return False
    least = least_given(all_given(state.rules, rows_of(table)), known)
    if least is None:
        return False
    return all([stands(state, fact, height, least) for fact, height in known.items()])


def follows(rule, fact, taken, rows):
    """True if the rule gives the fact by a way with exactly the facts that are taken."""
    relation, terms, body = rule
    if relation != fact[0] or fact_relations(body) != [one[0] for one in taken]:
        return False
    found = chosen_ways(body, [[one[1]] for one in taken], rows)
    return any([head_row(terms, way[0]) == fact[1] for way in found])


def is_place(what, end):
    """True for an index of a step before this end."""
    return is_number(what) and what < end


def is_step(state, rows, before, step):
    """True if a step may follow the facts of the steps before it."""
    relation, row, name, places = step
    if not is_row(row) or (relation, row) in before:
        return False
    if state.has(relation, row):
        return name is None and places == ()
    if name not in state.rules or not all([is_place(at, len(before)) for at in places]):
        return False
    return follows(state.rules[name], (relation, row), [before[at] for at in places], rows)


def is_account(state, table, steps):
    """True if the list of steps is an account, with `not` and `count` looked up in the table."""
    rows = rows_of(table)
    before = []
    for step in steps:
        if not is_step(state, rows, before, step):
            return False
        before.append((step[0], step[1]))
    return len(before) > 0


def first_reasons(given, known):
    """For each fact that is given with facts of lesser heights, the first rule and the facts that it takes."""
    found = {}
    for fact, taken, name in given:
        if fact not in found and all([known[one] < known[fact] for one in taken]):
            found[fact] = (name, taken)
    return found


def account(wanted, reasons):
    """The account of a fact: a fact without a reason is one of the state."""
    steps = []
    places = {}
    waiting = [wanted]
    # No recursion: an account may be longer than calls can be nested.
    while waiting:
        fact = waiting[-1]
        name, taken = reasons.get(fact, (None, ()))
        missing = [one for one in taken if one not in places]
        if missing:
            waiting.append(missing[0])
        else:
            waiting.pop()
            places[fact] = len(steps)
            steps.append((fact[0], fact[1], name, tuple([places[one] for one in taken])))
    return steps


def why(state, relation, row):
    """The account of a fact, or None if it is not in the model."""
    needed = part(state, [relation])
    given = all_given(needed.rules, model(needed))
    known = least_heights(needed, given)
    if (relation, row) not in known:
        return None
    return account((relation, row), first_reasons(given, known))

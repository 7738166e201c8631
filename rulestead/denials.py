"""Denials: where they clash, what is sound, and what could be left out of a change."""
from itertools import combinations
from rulestead.bodies import ways
from rulestead.checks import check_alone, check_body, check_edges
from rulestead.errors import Refused
from rulestead.model import model
from rulestead.states import between
from rulestead.values import row_key

MOST_PIECES = 7


def clash(state):
    """None, or the pair of the first denial, by name, that clashes, and its first row of values."""
    rows = model(state)
    for name in sorted(state.denials):
        body = state.denials[name]
        bound = check_body(state, body)
        found = [tuple([way[0][variable] for variable in bound]) for way in ways(body, rows, rows)]
        if found:
            return (name, min(found, key=row_key))
    return None


def facts_fit(state):
    """True if each fact is of a relation of the base and has as many values as columns."""
    for relation, rows in state.facts.items():
        width = state.relations.get(relation)
        if any([len(row) != width for row in rows]):
            return False
    return True


def is_sound(state):
    """True if the facts fit, and if each rule and each denial would be accepted among the others."""
    if not facts_fit(state):
        return False
    try:
        for relation, terms, body in state.rules.values():
            check_alone(state, relation, terms, body)
        check_edges(state.rules)
        for body in state.denials.values():
            check_body(state, body)
    except Refused:
        return False
    return True


def frees(first, pieces, left):
    """True if the pieces that do not stand at the places left out give a state that may stay."""
    made = first.change([piece for at, piece in enumerate(pieces) if at not in left])
    return is_sound(made) and clash(made) is None


def least_sets(first, second):
    """The list of the least sets of changes that could be left out, or None if there are too many changes."""
    pieces = between(first, second)
    if len(pieces) > MOST_PIECES:
        return None
    found = []
    for size in range(len(pieces) + 1):
        for left in combinations(range(len(pieces)), size):
            beyond = any([all([at in left for at in least]) for least in found])
            if not beyond and frees(first, pieces, left):
                found.append(left)
    return [tuple([pieces[at] for at in least]) for least in found]

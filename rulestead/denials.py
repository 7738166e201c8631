"""Denials: where they clash, what is sound, and what could be left out of a change."""
from rulestead.checks import check_alone, check_body, check_edges
from rulestead.choices import least_choices
from rulestead.errors import Refused
from rulestead.given import bound_rows
from rulestead.model import model
from rulestead.parts import names_in, part
from rulestead.states import between
from rulestead.values import row_key

MOST_PIECES = 7


def clash_in(denials, rows):
    """None, or the pair of the first denial, by name, that clashes in the rows of a model, and its first row."""
    for name in sorted(denials):
        told = bound_rows(denials[name], rows)
        if told:
            return (name, min(told, key=row_key))
    return None


def names_in_denials(denials):
    """The relations that stand in the bodies of denials."""
    return [name for body in denials.values() for name in names_in(body)]


def clash(state):
    """None, or the pair of the first denial, by name, that clashes, and its first row of values."""
    return clash_in(state.denials, model(part(state, names_in_denials(state.denials))))


def facts_fit(state):
    """True if each fact is of a relation of the base and has as many values as columns."""
    for relation, rows in state.facts.items():
        width = state.relations.get(relation)
        if any([len(row) != width for row in rows]):
            return False
    return True


def is_sound(state):
    """True if the facts fit, and if each rule and each denial would be accepted among the others."""
    if not facts_fit(state):
        return False
    try:
        for relation, terms, body in state.rules.values():
            check_alone(state, relation, terms, body)
        check_edges(state.rules)
        for body in state.denials.values():
            check_body(state, body)
    except Refused:
        return False
    return True


def frees(first, pieces, left):
    """True if the pieces that do not stand at the places left out give a state that may stay."""
    made = first.change([piece for at, piece in enumerate(pieces) if at not in left])
    return is_sound(made) and clash(made) is None


def least_sets(first, second):
    """The list of the least sets of changes that could be left out, or None if there are too many changes."""
    pieces = between(first, second)
    if len(pieces) > MOST_PIECES:
        return None
    least = least_choices(len(pieces), lambda left: frees(first, pieces, left))
    return [tuple([pieces[at] for at in places]) for places in least]

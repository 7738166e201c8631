"""Wishes: the least sets of changes, out of given ones, that make a fact hold or not hold."""
from rulestead.choices import least_choices
from rulestead.denials import clash_in, names_in_denials
from rulestead.model import model
from rulestead.parts import part


def turn(state, candidate):
    """The change that removes a candidate that is a fact of the state, and adds another one."""
    relation, row = candidate
    if state.has(relation, row):
        return ("goes", (1, relation, row))
    return ("comes", ("fact", relation, row))


def grants(state, denials, fact, wanted, changes):
    """True if the fact is as wanted after the changes, and no denial clashes then."""
    relation, row = fact
    rows = model(state.change(changes))
    if (row in rows.get(relation, [])) != wanted:
        return False
    return clash_in(denials, rows) is None


def wish(state, relation, row, wanted, candidates):
    """The list of the least sets of candidates that grant the wish, each a tuple of candidates."""
    needed = part(state, [relation] + names_in_denials(state.denials))
    # To turn anything else has no effect on the fact or on a denial, so no least set has it.
    able = [candidate for candidate in candidates if candidate[0] in needed.relations]
    turns = [turn(state, candidate) for candidate in able]
    least = least_choices(len(turns), lambda chosen: grants(
        needed, state.denials, (relation, row), wanted, [turns[at] for at in chosen]))
    return [tuple([able[place] for place in places]) for places in least]

"""The part of a state on which the model of some relations hangs."""
from rulestead.edges import all_edges, body_edges, reached
from rulestead.states import State


def names_in(body):
    """The relations that stand in a body."""
    return [edge[0] for edge in body_edges(body)]


def part(state, relations):
    """A new State with what these relations lead to: relations, facts and rules.

    Its model has the same rows and heights, and it is made without the rules that give other relations.
    """
    edges = all_edges(state.rules)
    wanted = {}
    for relation in relations:
        wanted[relation] = True
        wanted.update(reached(edges, relation))
    made = State()
    made.relations = {name: width for name, width in state.relations.items() if name in wanted}
    made.facts = {name: list(rows) for name, rows in state.facts.items() if name in wanted}
    made.rules = {name: rule for name, rule in state.rules.items() if rule[0] in wanted}
    return made

"""What is accepted: bodies, rules and denials."""
from rulestead.edges import binds, first_growing, has_ring, leads
from rulestead.errors import Refused


def widths(state):
    """The number of columns of each relation of the base and each derived one."""
    found = {relation: len(terms) for relation, terms, _ in state.rules.values()}
    found.update(state.relations)
    return found


def columns(state, relation):
    """The number of columns of a relation, or None if there is no such relation."""
    return widths(state).get(relation)


def check_terms(terms, bound):
    """Raises Refused unless each term is a value or a variable that is bound."""
    for term in terms:
        if term[0] == "any":
            raise Refused(("any",))
        if term[0] == "variable" and term[1] not in bound:
            raise Refused(("unbound", term[1]))


def check_relation(known, relation, terms):
    """Raises Refused unless the relation is there and has a column for each term."""
    if relation not in known:
        raise Refused(("no relation", relation))
    if len(terms) != known[relation]:
        raise Refused(("width", relation))


def check_literal(known, literal, bound):
    """Raises Refused with the first problem of a literal, if it has one."""
    if literal[0] == "fact":
        check_relation(known, literal[1], literal[2])
    elif literal[0] == "not":
        check_relation(known, literal[1], literal[2])
        check_terms([term for term in literal[2] if term[0] != "any"], bound)
    elif literal[0] == "compare":
        check_terms(literal[2:], bound)
    elif literal[0] == "is":
        check_terms(literal[3:], bound)
    else:
        check_relation(known, literal[2], literal[3])
        if ("variable", literal[1]) in literal[3]:
            raise Refused(("own total", literal[1]))


def check_literals(known, body):
    """A tuple of the variables that a body binds, or Refused; `known` has the columns of relations."""
    bound = {}
    for literal in body:
        check_literal(known, literal, bound)
        for variable in binds(literal):
            bound[variable] = True
    return tuple(bound)


def check_body(state, body):
    """The tuple of the variables that a body binds, in the order in which they are bound."""
    return check_literals(widths(state), body)


def check_alone(state, relation, terms, body):
    """Raises Refused with the first problem of a rule that does not come from its name or from edges.

    The rule may be in the state already: it is no hindrance to itself.
    """
    if relation in state.relations:
        raise Refused(("base", relation))
    known = [len(rule[1]) for rule in state.rules.values() if rule[0] == relation]
    if any([width != len(terms) for width in known]) or not 1 <= len(terms) <= 4:
        raise Refused(("width", relation))
    bound = check_literals({**widths(state), relation: len(terms)}, body)
    check_terms(terms, bound)


def check_edges(rules):
    """Raises Refused if a ring of edges has one that goes below, or if a rule grows."""
    led = leads(rules)
    if has_ring(rules, led):
        raise Refused(("ring",))
    name = first_growing(rules, led)
    if name is not None:
        raise Refused(("grows", name))


def check_rule(state, name, relation, terms, body):
    """Raises Refused with the first problem of a rule that is to come into the state."""
    if name in state.rules:
        raise Refused(("exists", "rule", name))
    check_alone(state, relation, terms, body)
    check_edges({**state.rules, name: (relation, terms, body)})


def check_denial(state, name, body):
    """Raises Refused with the first problem of a denial that is to come into the state."""
    if name in state.denials:
        raise Refused(("exists", "denial", name))
    check_body(state, body)

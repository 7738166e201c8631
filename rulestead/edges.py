"""What bodies bind and make, and the edges from the relations of rules to those of their bodies."""


def binds(literal):
    """The variables that have values after a literal, of those that it can bind."""
    if literal[0] == "fact":
        return [term[1] for term in literal[2] if term[0] == "variable"]
    if literal[0] == "is" or literal[0] == "count":
        return [literal[1]]
    return []


def bound_by(body):
    """The tuple of the variables that a body binds, in the order in which they are bound."""
    bound = {}
    for literal in body:
        for variable in binds(literal):
            bound[variable] = True
    return tuple(bound)


def makes(body):
    """True if a variable of the body is made: an `is` binds it that was not bound before."""
    bound = {}
    for literal in body:
        if literal[0] == "is" and literal[1] not in bound:
            return True
        for variable in binds(literal):
            bound[variable] = True
    return False


def body_edges(body):
    """A pair for each relation that stands in the body: the relation, and True if the edge goes below."""
    found = []
    for literal in body:
        if literal[0] == "fact":
            found.append((literal[1], False))
        elif literal[0] == "not":
            found.append((literal[1], True))
        elif literal[0] == "count":
            found.append((literal[2], True))
    return found


def reached(edges, start):
    """A dict of True for each relation to which one or more edges lead from a relation."""
    found = {}
    waiting = [start]
    while waiting:
        relation = waiting.pop()
        for other in edges.get(relation, []):
            if other not in found:
                found[other] = True
                waiting.append(other)
    return found


def all_edges(rules):
    """The list of the relations to which an edge leads, for each relation of the rules."""
    edges = {}
    for relation, _, body in rules.values():
        edges.setdefault(relation, []).extend([edge[0] for edge in body_edges(body)])
    return edges


def leads(rules):
    """For each relation of the rules, a dict of True for each relation to which it leads by edges."""
    edges = all_edges(rules)
    return {relation: reached(edges, relation) for relation in edges}


def comes_back(other, relation, led):
    """True if a relation is this one or leads to it by edges."""
    return other == relation or relation in led.get(other, {})


def has_ring(rules, led):
    """True if a ring of edges has one that goes below."""
    for relation, _, body in rules.values():
        if any([below and comes_back(other, relation, led) for other, below in body_edges(body)]):
            return True
    return False


def first_growing(rules, led):
    """The name of the first rule, by name, that grows, or None."""
    for name in sorted(rules):
        relation, _, body = rules[name]
        if makes(body) and any([comes_back(edge[0], relation, led) for edge in body_edges(body)]):
            return name
    return None

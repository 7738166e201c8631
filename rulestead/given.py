"""What bodies and rules give in sets of rows."""
from rulestead.bodies import fact_relations, head_row, ways
from rulestead.edges import bound_by


def all_given(rules, rows):
    """All that rules give: triples of a fact, the tuple of the facts that its way takes, and the rule.

    A fact is a pair of a relation and a row. The rules stand by name, the ways of each in their order.
    """
    found = []
    for name in sorted(rules):
        relation, terms, body = rules[name]
        names = fact_relations(body)
        for values, taken in ways(body, rows, rows):
            found.append(((relation, head_row(terms, values)), tuple(zip(names, taken)), name))
    return found


def bound_rows(body, rows):
    """The row of the values of the variables that a body binds, for each of its ways."""
    variables = bound_by(body)
    return [tuple([way[0][variable] for variable in variables]) for way in ways(body, rows, rows)]

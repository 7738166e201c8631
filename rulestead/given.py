"""What the rules of a state give in sets of rows."""
from rulestead.bodies import fact_relations, head_row, ways


def all_given(rules, rows):
    """All that rules give: triples of a fact, the tuple of the facts that its way takes, and the rule.

    A fact is a pair of a relation and a row. The rules stand by name, the ways of each in their order.
    """
    found = []
    for name in sorted(rules):
        relation, terms, body = rules[name]
        names = fact_relations(body)
        for values, taken in ways(body, rows, rows):
            found.append(((relation, head_row(terms, values)), tuple(zip(names, taken)), name))
    return found

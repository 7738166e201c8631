"""Bodies: the ways in which they hold in sets of rows, and the rows of heads."""
from rulestead.values import value_key


def worth(term, values):
    """The value of a term that is a value or a variable with a value."""
    if term[0] == "value":
        return term[1]
    return values[term[1]]


def split_terms(terms, values):
    """The places of the terms of a literal: those whose value is known before it,
    the first one of each variable without a value, and pairs of places that must be equal."""
    known, first, pairs = [], {}, []
    for at, term in enumerate(terms):
        if term[0] == "any":
            continue
        if term[0] == "value" or term[1] in values:
            known.append(at)
        elif term[1] in first:
            pairs.append((first[term[1]], at))
        else:
            first[term[1]] = at
    return known, first, pairs


class Matcher:
    """Finds the rows that the terms of a literal meet.

    The same variables have values in all ways before a literal, so the rows are
    grouped once by their values at the known places, and looked up for each way.
    """

    def __init__(self, terms, rows, values):
        known, first, pairs = split_terms(terms, values)
        self.known = [terms[at] for at in known]
        self.first = first
        self.groups = {}
        for row in rows:
            if all([row[one] == row[other] for one, other in pairs]):
                self.groups.setdefault(tuple([row[at] for at in known]), []).append(row)

    def met(self, values):
        """The rows that the terms meet, in the order in which they were given."""
        return self.groups.get(tuple([worth(term, values) for term in self.known]), [])

    def with_row(self, values, row):
        """New values: the old ones and those that the row gives."""
        grown = dict(values)
        for name in self.first:
            grown[name] = row[self.first[name]]
        return grown


def compares(operator, first, second):
    """True if two values are as the operator says, in the order of values."""
    low = value_key(first)
    high = value_key(second)
    if operator == "=":
        return low == high
    if operator == "<>":
        return low != high
    if operator == "<":
        return low < high
    if operator == "<=":
        return low <= high
    if operator == ">":
        return low > high
    return low >= high


def result_of(operator, first, second):
    """The result of two integers, or None if one of the values is a string."""
    if isinstance(first, str) or isinstance(second, str):
        return None
    if operator == "+":
        return first + second
    if operator == "-":
        return first - second
    return first * second


def fact_ways(literal, found, rows):
    """The ways after a `fact`, of those before it, with one of these rows."""
    matcher = Matcher(literal[2], rows, found[0][0])
    return [(matcher.with_row(values, row), taken + (row,))
            for values, taken in found for row in matcher.met(values)]


def not_ways(literal, found, lookups):
    """The ways after a `not`."""
    _, relation, terms = literal
    matcher = Matcher(terms, lookups[relation], found[0][0])
    return [way for way in found if not matcher.met(way[0])]


def compare_ways(literal, found):
    """The ways after a `compare`."""
    _, operator, first, second = literal
    return [way for way in found if compares(operator, worth(first, way[0]), worth(second, way[0]))]


def is_ways(literal, found):
    """The ways after an `is`."""
    _, variable, operator, first, second = literal
    results = [result_of(operator, worth(first, way[0]), worth(second, way[0])) for way in found]
    return meeting_ways(variable, found, results)


def count_ways(literal, found, lookups):
    """The ways after a `count`."""
    _, variable, relation, terms = literal
    matcher = Matcher(terms, lookups[relation], found[0][0])
    return meeting_ways(variable, found, [len(matcher.met(way[0])) for way in found])


def meeting_ways(variable, found, results):
    """The ways whose variable meets their result (None is met by nothing)."""
    met = []
    for (values, taken), result in zip(found, results):
        if result is None:
            continue
        if variable not in values:
            met.append(({**values, variable: result}, taken))
        elif values[variable] == result:
            met.append((values, taken))
    return met


def ways_after(literal, found, lookups):
    """The ways after a literal that is no `fact`, of those before it, of which there is one."""
    if literal[0] == "not":
        return not_ways(literal, found, lookups)
    if literal[0] == "compare":
        return compare_ways(literal, found)
    if literal[0] == "is":
        return is_ways(literal, found)
    return count_ways(literal, found, lookups)


def fact_relations(body):
    """The relation of each `fact` literal of a body, in order."""
    return [literal[1] for literal in body if literal[0] == "fact"]


def chosen_ways(body, choices, lookups):
    """The list of the ways of a body, where `choices` has a list of rows for each `fact` literal."""
    found = [({}, ())]
    facts = 0
    for literal in body:
        if not found:
            return []
        if literal[0] == "fact":
            found = fact_ways(literal, found, choices[facts])
            facts += 1
        else:
            found = ways_after(literal, found, lookups)
    return found


def ways(body, rows, lookups):
    """The list of the ways of a body, in the order of the rows of its `fact` literals."""
    return chosen_ways(body, [rows[relation] for relation in fact_relations(body)], lookups)


def head_row(terms, values):
    """The row of the head terms."""
    return tuple([worth(term, values) for term in terms])

"""The model of a state, with its levels and its heights."""
from rulestead.bodies import chosen_ways, fact_relations, head_row, ways
from rulestead.checks import widths
from rulestead.edges import body_edges, makes
from rulestead.given import all_given
from rulestead.values import row_key


def least_level(body, known):
    """The least level that a body leaves to the head of its rule."""
    made = makes(body)
    return max([known[other] + int(below or made) for other, below in body_edges(body)], default=0)


def levels(state):
    """A dict with the level of each relation of the base and each derived one."""
    found = {relation: 0 for relation in sorted(widths(state))}
    raised = True
    while raised:
        raised = False
        for relation, _, body in state.rules.values():
            least = least_level(body, found)
            if found[relation] < least:
                found[relation] = least
                raised = True
    return found


def ways_with_new(body, rows, new):
    """The ways of a body that take a new row at least once; those that take more may come again."""
    names = fact_relations(body)
    found = []
    for at, name in enumerate(names):
        if name in new:
            choices = [rows[relation] for relation in names]
            choices[at] = new[name]
            found.extend(chosen_ways(body, choices, rows))
    return found


def take_new(given, known):
    """The lists of those rows that are not known yet, for each relation that has such; they are known then."""
    new = {}
    for relation, row in given:
        if (relation, row) not in known:
            known[(relation, row)] = True
            new.setdefault(relation, []).append(row)
    return new


def add_given(rules, rows):
    """Adds to the rows what the rules of one level give, in rounds until nothing new comes."""
    known = {(rule[0], row): True for rule in rules for row in rows[rule[0]]}
    given = [(relation, head_row(terms, way[0]))
             for relation, terms, body in rules for way in ways(body, rows, rows)]
    new = take_new(given, known)
    while new:
        for relation in new:
            rows[relation].extend(new[relation])
        # A way without a new row was there in an earlier round.
        given = [(relation, head_row(terms, way[0]))
                 for relation, terms, body in rules for way in ways_with_new(body, rows, new)]
        new = take_new(given, known)


def model(state):
    """A dict with the sorted list of the rows of each relation of the base and each derived one."""
    known = levels(state)
    rows = {relation: list(state.facts.get(relation, [])) for relation in known}
    for level in sorted(set(list(known.values()))):
        add_given([rule for rule in state.rules.values() if known[rule[0]] == level], rows)
    return {relation: sorted(rows[relation], key=row_key) for relation in rows}


def users_of(given):
    """For each fact that something given takes, the places of all such, once for each time it is taken."""
    users = {}
    for at, one in enumerate(given):
        for fact in one[1]:
            users.setdefault(fact, []).append(at)
    return users


def least_heights(state, given):
    """A dict with the height of each fact of the model, from all that its rules give in it."""
    found = {(relation, row): 0 for relation in state.facts for row in state.facts[relation]}
    users = users_of(given)
    missing = [len(one[1]) for one in given]
    ready = [at for at, many in enumerate(missing) if many == 0]
    reached = list(found)
    height = 0
    while reached or ready:
        height += 1
        for fact in reached:
            for at in users.get(fact, []):
                missing[at] -= 1
                if missing[at] == 0:
                    ready.append(at)
        heads = [given[at][0] for at in ready]
        ready = []
        reached = []
        for fact in heads:
            if fact not in found:
                found[fact] = height
                reached.append(fact)
    return found


def heights(state):
    """The table of the model with the height of each row."""
    rows = model(state)
    known = least_heights(state, all_given(state.rules, rows))
    return {relation: [(row, known[(relation, row)]) for row in rows[relation]] for relation in rows}

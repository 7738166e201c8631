"""Statements: what is said of a state, with the answer and the state after it."""
from rulestead.checks import check_body, check_denial, check_rule, columns
from rulestead.errors import Refused
from rulestead.given import bound_rows
from rulestead.judge import why
from rulestead.model import model
from rulestead.parts import names_in, part
from rulestead.values import row_key
from rulestead.wishes import wish


def is_derived(state, relation):
    """True if a rule gives the relation."""
    return any([rule[0] == relation for rule in state.rules.values()])


def check_width(state, relation, row):
    """Raises Refused unless the relation is there and the row has as many values as columns."""
    width = columns(state, relation)
    if width is None:
        raise Refused(("no relation", relation))
    if len(row) != width:
        raise Refused(("width", relation))


def check_place(state, relation, row):
    """Raises Refused unless the row could be a fact of a relation of the base."""
    if is_derived(state, relation):
        raise Refused(("derived", relation))
    check_width(state, relation, row)


def check_unused(state, relation, own):
    """Raises Refused if the relation stands in the body of a rule, but for the own one, or of a denial."""
    for name in sorted(state.rules):
        if name != own and relation in names_in(state.rules[name][2]):
            raise Refused(("used", "rule", name))
    for name in sorted(state.denials):
        if relation in names_in(state.denials[name]):
            raise Refused(("used", "denial", name))


def relation_comes(state, statement):
    """The answer and the changes of `relation`."""
    _, name, width = statement
    if columns(state, name) is not None:
        raise Refused(("exists", "relation", name))
    if width < 1 or width > 4:
        raise Refused(("columns",))
    return None, [("comes", statement)]


def relation_goes(state, statement):
    """The answer and the changes of `drop`."""
    _, name = statement
    if name not in state.relations:
        raise Refused(("no relation", name))
    check_unused(state, name, None)
    gone = [("goes", (1, name, row)) for row in state.facts[name]]
    return None, gone + [("goes", (0, name, ()))]


def fact_comes(state, statement):
    """The answer and the changes of `add`."""
    _, relation, row = statement
    check_place(state, relation, row)
    return not state.has(relation, row), [("comes", ("fact", relation, row))]


def fact_goes(state, statement):
    """The answer and the changes of `remove`."""
    _, relation, row = statement
    check_place(state, relation, row)
    return state.has(relation, row), [("goes", (1, relation, row))]


def rule_comes(state, statement):
    """The answer and the changes of `rule`."""
    _, name, relation, terms, body = statement
    check_rule(state, name, relation, terms, body)
    return None, [("comes", statement)]


def rule_goes(state, statement):
    """The answer and the changes of `strike`."""
    _, name = statement
    if name not in state.rules:
        raise Refused(("no rule", name))
    relation = state.rules[name][0]
    givers = [other for other in state.rules if state.rules[other][0] == relation]
    if len(givers) == 1:
        check_unused(state, relation, name)
    return None, [("goes", (2, name, ()))]


def denial_comes(state, statement):
    """The answer and the changes of `deny`."""
    _, name, body = statement
    check_denial(state, name, body)
    return None, [("comes", ("denial", name, body))]


def denial_goes(state, statement):
    """The answer and the changes of `allow`."""
    _, name = statement
    if name not in state.denials:
        raise Refused(("no denial", name))
    return None, [("goes", (3, name, ()))]


def answer_ask(state, statement):
    """The answer of `ask`."""
    _, body = statement
    variables = check_body(state, body)
    rows = model(part(state, names_in(body)))
    # A dict has each row once.
    told = {row: True for row in bound_rows(body, rows)}
    return (variables, sorted(list(told), key=row_key))


def answer_why(state, statement):
    """The answer of `why`."""
    _, relation, row = statement
    check_width(state, relation, row)
    return why(state, relation, row)


def answer_wish(state, statement):
    """The answer of `wish`."""
    _, relation, row, wanted, candidates = statement
    check_width(state, relation, row)
    for candidate in candidates:
        check_place(state, candidate[0], candidate[1])
    return wish(state, relation, row, wanted, candidates)


def answer_show(state, statement):
    """The answer of `show`."""
    return [item for item in state.all_items() if item[0] != "fact"]


CHANGES = {
    "relation": relation_comes, "drop": relation_goes, "add": fact_comes, "remove": fact_goes,
    "rule": rule_comes, "strike": rule_goes, "deny": denial_comes, "allow": denial_goes,
}
QUESTIONS = {"ask": answer_ask, "why": answer_why, "wish": answer_wish, "show": answer_show}


def is_question(statement):
    """True for a statement that changes nothing, whatever is answered."""
    return statement[0] in QUESTIONS


def say(state, statement):
    """The pair of the answer of a statement and the new state after it."""
    if is_question(statement):
        answer = QUESTIONS[statement[0]]
        return (answer(state, statement), state.copy())
    change = CHANGES[statement[0]]
    told, changes = change(state, statement)
    return (told, state.change(changes))

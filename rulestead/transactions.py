"""The words of a transaction, which are run again whenever its own state is asked for."""
from rulestead.errors import NoSavepoint, Refused
from rulestead.statements import is_question, say

STATEMENT = "statement"
SAVEPOINT = "savepoint"
WAY_BACK = "way back"


def copied(told):
    """A copy that shares no list with what is told."""
    if isinstance(told, list):
        return [copied(one) for one in told]
    if isinstance(told, tuple):
        return tuple([copied(one) for one in told])
    return told


def same_kind(first, second):
    """True if two values are both lists, both tuples, both booleans, or both none of these."""
    return all([isinstance(first, list) == isinstance(second, list),
                isinstance(first, tuple) == isinstance(second, tuple),
                isinstance(first, bool) == isinstance(second, bool)])


def same_told(first, second):
    """True if two answers have equal values of equal kinds."""
    if not same_kind(first, second):
        return False
    if not isinstance(first, (list, tuple)):
        return first == second
    if len(first) != len(second):
        return False
    return all([same_told(one, other) for one, other in zip(first, second)])


def answered(state, statement):
    """The pair of what is told of a statement and the state after it, which may be the same one."""
    try:
        answer, made = say(state, statement)
    except Refused as refused:
        return ("problem", refused.problem), state
    return ("answer", answer), made


def marks_until(marks, name):
    """The marks up to the newest one of this name."""
    for at in reversed(range(len(marks))):
        if marks[at][0] == name:
            return marks[:at + 1]
    raise NoSavepoint("there is no mark of this name")


def moved(own, marks, form, name):
    """The own state and the marks after a savepoint or a way back; a mark is a pair of a name and a state."""
    if form == SAVEPOINT:
        return own, marks + [(name, own)]
    left = marks_until(marks, name)
    return left[-1][1], left


class Words:
    """What was said in a transaction, with the answers."""

    def __init__(self):
        # Triples: the form, the statement or the name, and what was told of the statement.
        self.noted = []

    def own(self, state):
        """The own state on the state now, a new State."""
        return self._run(state)[0]

    def say(self, state, statement):
        """Answers a statement on the own state, and notes both."""
        kept = copied(statement)
        told, _ = answered(self.own(state), kept)
        self.noted.append((STATEMENT, kept, copied(told)))
        if told[0] == "problem":
            raise Refused(told[1])
        return told[1]

    def savepoint(self, name):
        """Notes a savepoint."""
        self.noted.append((SAVEPOINT, name, None))

    def rollback_to(self, state, name):
        """Notes a way back to the newest mark of this name."""
        marks_until(self._run(state)[1], name)
        self.noted.append((WAY_BACK, name, None))

    def again(self, state):
        """Runs everything again; tells the first statement whose answer differs, or the state that is made."""
        own = state.copy()
        marks = []
        index = 0
        for form, what, before in self.noted:
            if form != STATEMENT:
                own, marks = moved(own, marks, form, what)
                continue
            told, own = answered(own, what)
            if not same_told(told, before):
                return (index, told, None)
            index += 1
        return (None, None, own)

    def _run(self, state):
        """The own state and the marks after all that was said."""
        own = state.copy()
        marks = []
        for form, what, _ in self.noted:
            if form != STATEMENT:
                own, marks = moved(own, marks, form, what)
            elif not is_question(what):
                own = answered(own, what)[1]
        return own, marks

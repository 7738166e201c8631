"""States: sets of items with different keys, and the changes between them."""
from rulestead.values import key_of, row_key, same_row


def place_of(rows, row):
    """The index where the row stands in the sorted rows, or where it would be put."""
    wanted = row_key(row)
    low = 0
    high = len(rows)
    while low < high:
        middle = (low + high) // 2
        if row_key(rows[middle]) < wanted:
            low = middle + 1
        else:
            high = middle
    return low


def stands_at(rows, at, row):
    """True if the row is the one at this index, which may be the end."""
    return at < len(rows) and same_row(rows[at], row)


class State:
    """A set of items with different keys."""

    def __init__(self, items=()):
        self.relations = {}
        self.facts = {}
        self.rules = {}
        self.denials = {}
        for item in items:
            self._put(item)

    def all_items(self):
        """A new list of the items, in the order of keys."""
        found = [("relation", name, self.relations[name]) for name in sorted(self.relations)]
        for name in sorted(self.facts):
            found.extend([("fact", name, row) for row in self.facts[name]])
        for name in sorted(self.rules):
            relation, terms, body = self.rules[name]
            found.append(("rule", name, relation, terms, body))
        for name in sorted(self.denials):
            found.append(("denial", name, self.denials[name]))
        return found

    def has(self, relation, row):
        """True if the state has this fact."""
        rows = self.facts.get(relation, [])
        return stands_at(rows, place_of(rows, row), row)

    def copy(self):
        """A new State with the same items."""
        made = State()
        made.relations = dict(self.relations)
        made.facts = {name: list(rows) for name, rows in self.facts.items()}
        made.rules = dict(self.rules)
        made.denials = dict(self.denials)
        return made

    def change(self, changes):
        """A new State, with the changes made one after another."""
        made = self.copy()
        for kind, what in changes:
            if kind == "comes":
                made._put(what)
            else:
                made._take(what)
        return made

    def _put(self, item):
        """Puts an item in the place of the one with its key."""
        name = item[1]
        if item[0] == "relation":
            self.relations[name] = item[2]
            self.facts.setdefault(name, [])
        elif item[0] == "fact":
            self._put_row(name, item[2])
        elif item[0] == "rule":
            self.rules[name] = (item[2], item[3], item[4])
        else:
            self.denials[name] = item[2]

    def _put_row(self, name, row):
        """Puts a row among the facts of a name, at its place in the order."""
        rows = self.facts.setdefault(name, [])
        at = place_of(rows, row)
        if not stands_at(rows, at, row):
            rows.insert(at, row)

    def _take(self, key):
        """Removes the item with this key, if there is one."""
        sort, name, row = key
        if sort == 1:
            self._take_row(name, row)
        elif row != ():
            # Only facts have a row in their key, so no item has this one.
            return
        elif sort == 0:
            self.relations.pop(name, None)
            self._forget_bare(name)
        elif sort == 2:
            self.rules.pop(name, None)
        else:
            self.denials.pop(name, None)

    def _take_row(self, name, row):
        """Removes a row from the facts of a name, if it is there."""
        rows = self.facts.get(name, [])
        at = place_of(rows, row)
        if stands_at(rows, at, row):
            del rows[at]
        self._forget_bare(name)

    def _forget_bare(self, name):
        """Removes the list of a name that has neither a relation nor facts."""
        if name not in self.relations and self.facts.get(name) == []:
            del self.facts[name]


def between(first, second):
    """The list of the changes that make the second state of the first one."""
    before = {key_of(item): item for item in first.all_items()}
    after = {key_of(item): item for item in second.all_items()}
    gone = [("goes", key) for key in before if key not in after]
    come = [("comes", after[key]) for key in after if before.get(key) != after[key]]
    return gone + come

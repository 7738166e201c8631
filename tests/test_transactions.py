import collections
import copy
import random
import time
import unittest

from rulestead.errors import NoSavepoint, Refused
from rulestead.states import State
from rulestead.transactions import Words, same_told
from tests import plain, plain_statements
from tests.chance import ANY, W, X, Y, denial, fact, rule
from tests.talk import spoil, some_statement

BASE = [("relation", "a", 1), ("relation", "b", 2)]
ONE, TWO = ("add", "a", (1,)), ("add", "a", (2,))


def parts(state):
    return copy.deepcopy((state.relations, state.facts, state.rules, state.denials))


class WordsCase(unittest.TestCase):

    def setUp(self):
        self.words = Words()

    def say(self, items, *statements):
        """The answers of statements, or the problems where they are refused."""
        state, told = State(items), []
        for statement in statements:
            try:
                told.append(self.words.say(state, statement))
            except Refused as refused:
                told.append(refused.problem)
        return told

    def own(self, items):
        return self.words.own(State(items)).all_items()

    def again(self, items):
        """What is told when everything runs again, with the items that are made."""
        told = self.words.again(State(items))
        self.assertIs(type(told), tuple)
        index, now, made = told
        return index, now, made if made is None else made.all_items()


class SmallTest(WordsCase):

    def test_at_first_nothing(self):
        self.assertEqual(self.own(BASE), BASE)
        self.assertEqual(self.again(BASE), (None, None, BASE))
        self.assertEqual(self.again([]), (None, None, []))
        with self.assertRaises(NoSavepoint):
            self.words.rollback_to(State(BASE), "s")

    def test_statements_are_answered_on_the_own_state(self):
        body = (fact("a", X),)
        told = self.say(BASE, ONE, ONE, ("ask", body), ("remove", "a", (1,)), ("ask", body), TWO)
        self.assertEqual(told, [True, False, (("x",), [(1,)]), True, (("x",), []), True])
        self.assertEqual(self.own(BASE), BASE + [fact("a", 2)])
        self.assertEqual(self.own(BASE + [fact("a", 9), fact("a", 1)]), BASE + [fact("a", 2), fact("a", 9)])

    def test_refused_statements(self):
        told = self.say([], ONE, ("relation", "a", 1), ("relation", "a", 1), ONE, ("relation", "c", 5))
        self.assertEqual(told, [("no relation", "a"), None, ("exists", "relation", "a"), True, ("columns",)])
        self.assertEqual(self.again([]), (None, None, BASE[:1] + [fact("a", 1)]))
        # The first statement is not refused there, and the answers differ.
        self.assertEqual(self.again(BASE), (0, ("answer", True), None))

    def test_the_first_statement_that_differs(self):
        self.say(BASE, ("add", "b", (1, 1)), ONE, TWO)
        self.assertEqual(self.again(BASE), (None, None, BASE + [fact("a", 1), fact("a", 2), fact("b", 1, 1)]))
        self.assertEqual(self.again(BASE + [fact("a", 2)]), (2, ("answer", False), None))
        self.assertEqual(self.again(BASE + [fact("a", 2), fact("a", 1)]), (1, ("answer", False), None))
        self.assertEqual(self.again(BASE[:1]), (0, ("problem", ("no relation", "b")), None))
        self.assertEqual(self.again([BASE[0], ("relation", "b", 3)]), (0, ("problem", ("width", "b")), None))
        # The words stay, whatever was told.
        self.assertEqual(self.again(BASE)[:2], (None, None))

    def test_an_answer_in_the_place_of_another(self):
        self.say(BASE + [fact("a", 1)], ("ask", (fact("a", X),)), ("why", "a", (1,)), ("show",))
        self.assertEqual(self.again(BASE + [fact("a", 1)])[:2], (None, None))
        self.assertEqual(self.again(BASE), (0, ("answer", (("x",), [])), None))
        self.assertEqual(self.again(BASE + [fact("a", "1")]), (0, ("answer", (("x",), [("1",)])), None))
        self.assertEqual(self.again(BASE[:1] + [fact("a", 1)]), (2, ("answer", BASE[:1]), None))

    def test_problems_are_told_by_their_words(self):
        self.say(BASE, ("drop", "c"), ("add", "p", (1,)))
        given = rule("r", "p", (X,), fact("a", X))
        self.assertEqual(self.again(BASE + [given]), (1, ("problem", ("derived", "p")), None))
        self.assertEqual(self.again(BASE + [("relation", "p", 2)]), (1, ("problem", ("width", "p")), None))
        self.assertEqual(self.again(BASE + [("relation", "c", 2)]), (0, ("answer", None), None))

    def test_what_is_elsewhere_makes_no_difference(self):
        self.say(BASE, ("ask", (fact("a", X),)), ONE)
        elsewhere = [fact("b", 3, 3), rule("r", "p", (X,), fact("a", X)), denial("d", fact("a", X))]
        index, told, made = self.again(BASE + elsewhere)
        self.assertEqual((index, told), (None, None))
        self.assertEqual(made, plain.in_order(BASE + elsewhere + [fact("a", 1)]))

    def test_answers_are_compared_by_kind(self):
        same = (None, True, False, 0, 1, -1, "", "1", (), [], (1,), [1], [(1, "a")], [(1, "b")], ((("x",), [(1,)])))
        for one in same:
            self.assertTrue(same_told(one, copy.deepcopy(one)))
            for other in same:
                self.assertIs(same_told(one, other), repr(one) == repr(other), (one, other))
        for one, other in ((True, 1), (False, 0), ((True,), (1,)), ([(1, [False])], [(1, [0])]), ([1], (1,))):
            self.assertFalse(same_told(one, other))
            self.assertFalse(same_told(("answer", other), ("answer", one)))


class SavepointTest(WordsCase):

    def test_the_way_back(self):
        state = State(BASE)
        self.say(BASE, ONE)
        self.words.savepoint("s")
        self.say(BASE, TWO, ("deny", "d", ()))
        self.words.rollback_to(state, "s")
        self.assertEqual(self.own(BASE), BASE + [fact("a", 1)])
        self.say(BASE, ("add", "a", (3,)))
        self.assertEqual(self.own(BASE), BASE + [fact("a", 1), fact("a", 3)])
        # The mark stays, with the own state that it had.
        self.words.rollback_to(state, "s")
        self.words.rollback_to(state, "s")
        self.assertEqual(self.own(BASE), BASE + [fact("a", 1)])

    def test_later_marks_are_gone(self):
        state = State(BASE)
        self.words.savepoint("s")
        self.say(BASE, ONE)
        self.words.savepoint("t")
        self.say(BASE, TWO)
        self.words.rollback_to(state, "s")
        self.assertEqual(self.own(BASE), BASE)
        with self.assertRaises(NoSavepoint):
            self.words.rollback_to(state, "t")
        self.assertEqual(self.own(BASE), BASE)
        self.words.savepoint("t")
        self.words.rollback_to(state, "t")
        self.words.rollback_to(state, "s")

    def test_one_name_twice(self):
        state = State(BASE)
        self.words.savepoint("s")
        self.say(BASE, ONE)
        self.words.savepoint("t")
        self.words.savepoint("s")
        self.say(BASE, TWO)
        for _ in range(2):
            # The newest mark stays, so the older one of the name is not met.
            self.words.rollback_to(state, "s")
            self.assertEqual(self.own(BASE), BASE + [fact("a", 1)])
        self.words.rollback_to(state, "t")
        self.words.rollback_to(state, "s")
        self.assertEqual(self.own(BASE), BASE)

    def test_a_way_back_that_is_not_there_is_not_noted(self):
        self.say(BASE, ONE)
        for name in ("s", "t"):
            with self.assertRaises(NoSavepoint):
                self.words.rollback_to(State(BASE), name)
        self.words.savepoint("s")
        self.assertEqual(self.again(BASE), (None, None, BASE + [fact("a", 1)]))
        self.assertEqual(self.own(BASE), BASE + [fact("a", 1)])

    def test_what_is_taken_back_counts(self):
        """All statements have their index; savepoints and ways back have none."""
        self.words.savepoint("s")
        self.say(BASE, ONE, ("drop", "c"))
        self.words.savepoint("t")
        self.words.rollback_to(State(BASE), "s")
        self.say(BASE, TWO)
        self.assertEqual(self.again(BASE), (None, None, BASE + [fact("a", 2)]))
        self.assertEqual(self.again(BASE + [fact("a", 1)]), (0, ("answer", False), None))
        self.assertEqual(self.again(BASE + [fact("a", 2)]), (2, ("answer", False), None))
        self.assertEqual(self.again(BASE + [("relation", "c", 1)]), (1, ("answer", None), None))

    def test_the_way_back_in_each_run(self):
        """The mark has the own state of the run, not the one that it had at first."""
        self.say(BASE, ONE)
        self.words.savepoint("s")
        self.say(BASE, TWO)
        self.words.rollback_to(State(BASE), "s")
        items = BASE + [fact("a", 7), fact("b", 1, 1)]
        self.assertEqual(self.own(items), plain.in_order(items + [fact("a", 1)]))


class SharedTest(WordsCase):
    """What is passed and told is nobody else's."""

    def test_states(self):
        state = State(BASE)
        first = self.words.own(state)
        self.assertIsNot(first, state)
        self.words.say(state, ONE)
        self.words.savepoint("s")
        before = parts(state)
        for _ in range(2):
            own, made = self.words.own(state), self.words.again(state)[2]
            self.assertEqual(own.all_items(), BASE + [fact("a", 1)])
            self.assertEqual(made.all_items(), BASE + [fact("a", 1)])
            self.assertIsNot(own, made)
            spoil(own)
            spoil(made)
            self.assertEqual(parts(state), before)
        spoil(state)
        self.assertEqual(self.own(BASE), BASE + [fact("a", 1)])

    def test_candidates(self):
        candidates = [("a", (1,)), ("a", (2,))]
        state = State(BASE)
        self.assertEqual(self.words.say(state, ("wish", "a", (1,), True, candidates)), [(("a", (1,)),)])
        candidates[:] = [("c", (1,))]
        self.assertEqual(self.again(BASE)[:2], (None, None))
        self.assertEqual(self.again(BASE + [fact("a", 1)]), (0, ("answer", [()]), None))

    def test_answers(self):
        items = BASE + [fact("a", 1)]
        statements = (("ask", (fact("a", X),)), ("why", "a", (1,)), ("show",), ("wish", "a", (1,), True, []))
        for answer in self.say(items, *statements):
            spoil(answer)
        self.assertEqual(self.again(items)[:2], (None, None))
        _, told, _ = self.words.again(State(BASE))
        spoil(told)
        self.assertEqual(self.again(BASE), (0, ("answer", (("x",), [])), None))
        self.assertEqual(self.again(items)[:2], (None, None))


class ManyTest(unittest.TestCase):

    def note(self, words, chooser, said, items):
        """Says something, and notes it as the plain version does."""
        state = State(items)
        own = plain_statements.own(said, items)
        form, name = chooser.random(), chooser.choice("stu")
        if form < 0.15:
            words.savepoint(name)
            said.append(("savepoint", name))
        elif form < 0.35:
            if plain_statements.has_mark(said, name):
                words.rollback_to(state, name)
                said.append(("back", name))
            else:
                with self.assertRaises(NoSavepoint):
                    words.rollback_to(state, name)
        else:
            self.note_statement(words, chooser, said, (state, own))

    def note_statement(self, words, chooser, said, states):
        state, own = states
        statement = some_statement(chooser, own)
        said.append(("say", copy.deepcopy(statement)))
        try:
            answer = words.say(state, statement)
            told = ("answer", copy.deepcopy(answer))
            spoil(answer)
        except Refused as refused:
            told = ("problem", refused.problem)
        self.assertEqual(repr(told), repr(plain_statements.say(own, statement)[0]))
        spoil(statement)
        self.told.append(told)

    def check_again(self, words, said, items):
        """Runs everything on these items, and compares with the plain version."""
        state = State(items)
        before = parts(state)
        now, made = plain_statements.run(said, items)
        differing = [at for at, (one, other) in enumerate(zip(self.told, now)) if repr(one) != repr(other)]
        expected = (None, None, made) if not differing else (differing[0], now[differing[0]], None)
        index, told, state_made = words.again(state)
        if state_made is not None:
            self.assertIs(type(state_made), State)
            self.assertEqual(parts(state_made), plain.parts(made))
        self.assertEqual(repr((index, told)), repr(expected[:2]))
        self.assertEqual(state_made is None, expected[2] is None)
        self.assertEqual(parts(words.own(state)), plain.parts(made))
        self.assertEqual(parts(state), before)
        return index is None

    def test_random_words(self):
        told = collections.Counter()
        for seed in range(150):
            chooser = random.Random(seed)
            items = []
            for _ in range(12):
                items = plain_statements.say(items, some_statement(chooser, items))[1]
            words, said, self.told = Words(), [], []
            for _ in range(chooser.randint(4, 16)):
                self.note(words, chooser, said, items)
            self.assertTrue(self.check_again(words, said, items))
            for _ in range(4):
                other = items
                for _ in range(chooser.randint(1, 3)):
                    other = plain_statements.say(other, some_statement(chooser, other))[1]
                told[self.check_again(words, said, other)] += 1
            self.assertTrue(self.check_again(words, said, items))
        self.assertGreater(min(told[True], told[False]), 40, told)

    def test_many_words_are_answered_quickly(self):
        words, state = Words(), State(BASE + [rule("r", "p", (X, W), fact("b", X, Y), ("count", "w", "a", (ANY,)))])
        start = time.process_time()
        for at in range(60):
            words.say(state, ("add", "b", (at, at)))
            words.say(state, ("ask", (fact("p", X, Y),)))
            words.savepoint("s")
        self.assertEqual(words.again(state)[:2], (None, None))
        self.assertLess(time.process_time() - start, 20)


if __name__ == "__main__":
    unittest.main()

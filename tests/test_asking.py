"""Points 14 and 15: questions, candidates, and following with answers."""

import itertools
import random
import unittest

from makers import BIG, PLACES, REGIONS, SCHEMAS, SHOPS, any_base, any_case
from onlyviews.asking import (answer, can_follow_with, candidates, doubt_with, fewest, followed_with, is_doubt_with)
from onlyviews.bases import Base, net
from onlyviews.deciding import can_follow
from onlyviews.errors import NotFollowed
from onlyviews.schemas import Schema
from onlyviews.views import View, contents
from oracle import answered, is_evidence, made, shown_by, tables_of
from samples import ANY_VALUES

DEEP = Schema.parse("table a\n  plain p\ntable b\n  plain p\n  ref r a\ntable c\n  plain p\n  ref r b\n  ref s b")
DEEP_BASE = Base(DEEP, [
    ("a", (1, 10)), ("a", (2, 20)), ("b", (3, 30, 1)), ("b", (4, 40, 1)), ("b", (5, 50, 2)),
    ("c", (9, 0, 3, 4)), ("c", (8, 0, 3, 3)), ("c", (7, 0, 5, 3)), ("c", (6, 0, 4, 5))])


class AnswerTest(unittest.TestCase):

    def test_example(self):
        base = Base(SHOPS, [("region", (3, 2)), ("shop", (5, 1, 3))])
        changes = [("set", "region", (3, 2), (3, 12))]
        above = ("above", "shop", ("place",), 3)
        self.assertEqual([candidates([BIG], changes, 0), fewest([BIG], changes, 0)], [[above], [above]])
        self.assertEqual(answer(base, above), [("region", (3, 2)), ("shop", (5, 1, 3))])

    def test_below(self):
        self.assertEqual(answer(DEEP_BASE, ("below", "a", 2)), [("a", (2, 20))])
        self.assertEqual(answer(DEEP_BASE, ("below", "b", 5)), [("a", (2, 20)), ("b", (5, 50, 2))])
        self.assertEqual(answer(DEEP_BASE, ("below", "c", 7)), [
            ("a", (1, 10)), ("a", (2, 20)), ("b", (3, 30, 1)), ("b", (5, 50, 2)), ("c", (7, 0, 5, 3))])
        # A row that stands below twice is told once.
        self.assertEqual(answer(DEEP_BASE, ("below", "c", 9)), [
            ("a", (1, 10)), ("b", (3, 30, 1)), ("b", (4, 40, 1)), ("c", (9, 0, 3, 4))])
        self.assertEqual(answer(DEEP_BASE, ("below", "c", 8)), [
            ("a", (1, 10)), ("b", (3, 30, 1)), ("c", (8, 0, 3, 3))])

    def test_above(self):
        self.assertEqual(answer(DEEP_BASE, ("above", "b", ("r",), 2)), [("a", (2, 20)), ("b", (5, 50, 2))])
        self.assertEqual(answer(DEEP_BASE, ("above", "c", ("r",), 4)), [
            ("a", (1, 10)), ("a", (2, 20)), ("b", (4, 40, 1)), ("b", (5, 50, 2)), ("c", (6, 0, 4, 5))])
        self.assertEqual(answer(DEEP_BASE, ("above", "c", ("s",), 4)), [
            ("a", (1, 10)), ("b", (3, 30, 1)), ("b", (4, 40, 1)), ("c", (9, 0, 3, 4))])

    def test_above_by_two_references(self):
        self.assertEqual(answer(DEEP_BASE, ("above", "c", ("s", "r"), 2)), [
            ("a", (1, 10)), ("a", (2, 20)), ("b", (4, 40, 1)), ("b", (5, 50, 2)), ("c", (6, 0, 4, 5))])
        told = answer(DEEP_BASE, ("above", "c", ("r", "r"), 1))
        self.assertEqual([pair for pair in told if pair[0] == "c"], [("c", (6, 0, 4, 5)), ("c", (8, 0, 3, 3)), ("c", (9, 0, 3, 4))])

    def test_rows_that_are_not_there(self):
        self.assertEqual(answer(DEEP_BASE, ("below", "a", 3)), [])
        self.assertEqual(answer(DEEP_BASE, ("above", "b", ("r",), 3)), [])
        self.assertEqual(answer(DEEP_BASE, ("above", "c", ("s", "r"), 10 ** 6)), [])
        self.assertEqual(answer(Base(DEEP), ("above", "c", ("r",), 0)), [])

    def test_as_told_plainly(self):
        for seed in range(200):
            chance = random.Random(seed)
            base = any_base(chance, chance.choice(SCHEMAS))
            schema, tables = base.schema, tables_of(base)
            for table, key in itertools.product(schema.tables, range(4)):
                question = ("below", table, key)
                self.assertEqual(answer(base, question), answered(schema, tables, question))
                for path in paths(schema, table):
                    question = ("above", table, path, key)
                    self.assertEqual(answer(base, question), answered(schema, tables, question))

    def test_new_lists(self):
        answer(DEEP_BASE, ("below", "a", 2)).clear()
        self.assertEqual(answer(DEEP_BASE, ("below", "a", 2)), [("a", (2, 20))])


def paths(schema, table):
    """Return all paths from a table."""
    found = []
    for name, target in schema.columns(table):
        if target is not None:
            found += [(name,), *[(name, *path) for path in paths(schema, target)]]
    return found


class CandidatesTest(unittest.TestCase):

    VIEW = View.parse(DEEP, "view c\n  follow r\n    follow r\n  follow s")

    def told(self, changes, view=None):
        return candidates([view or self.VIEW], changes, 0)

    def test_below(self):
        self.assertEqual(self.told([("insert", "c", (1, 0, 7, 5))]), [("below", "b", 5), ("below", "b", 7)])
        self.assertEqual(self.told([("insert", "c", (1, 0, 7, 7))]), [("below", "b", 7)])
        self.assertEqual(self.told([("delete", "c", (1, 0, 7, 5))]), [("below", "b", 5), ("below", "b", 7)])
        self.assertEqual(self.told([("set", "c", (1, 0, 7, 5), (1, 0, 7, 6))]),
                         [("below", "b", 5), ("below", "b", 6), ("below", "b", 7)])
        # Also where the view has no node for it.
        self.assertEqual(self.told([("insert", "b", (1, 0, 4))], View.parse(DEEP, "view c")), [("below", "a", 4)])
        self.assertEqual(self.told([("insert", "a", (1, 0))]), [])

    def test_below_for_rows_of_the_batch(self):
        insert = ("insert", "c", (1, 0, 7, 5))
        self.assertEqual(self.told([("insert", "b", (7, 0, 2)), insert]), [("below", "a", 2), ("below", "b", 5)])
        # A row that was there before is not inserted.
        self.assertEqual(self.told([("set", "b", (7, 1, 2), (7, 1, 2)), insert]), [("below", "b", 5), ("below", "b", 7)])
        self.assertEqual(self.told([("delete", "b", (7, 1, 2)), ("insert", "b", (7, 1, 2)), insert]),
                         [("below", "b", 5), ("below", "b", 7)])
        self.assertEqual(self.told([("delete", "b", (7, 1, 2)), ("insert", "b", (7, 0, 3)), insert])[:4],
                         [("below", "a", 2), ("below", "a", 3), ("below", "b", 5), ("below", "b", 7)])

    def test_above(self):
        changes = [("set", "a", (4, 0), (4, 1)), ("set", "b", (9, 0, 4), (9, 1, 4)), ("set", "b", (2, 0, 4), (2, 1, 4)),
                   ("set", "a", (3, 0), (3, 1))]
        self.assertEqual(self.told(changes), [
            ("below", "a", 4), ("above", "c", ("r",), 2), ("above", "c", ("r",), 9), ("above", "c", ("r", "r"), 3),
            ("above", "c", ("r", "r"), 4), ("above", "c", ("s",), 2), ("above", "c", ("s",), 9)])
        self.assertEqual(self.told(changes, View.parse(DEEP, "view b\n  follow r")), [
            ("below", "a", 4), ("above", "b", ("r",), 3), ("above", "b", ("r",), 4)])
        self.assertEqual(self.told(changes, View.parse(DEEP, "view a")), [("below", "a", 4)])

    def test_above_for_rows_that_come_and_go(self):
        above = [("above", "c", ("r", "r"), 4)]
        here, other = (4, 0), (4, 1)
        self.assertEqual(self.told([("delete", "a", here)]), above)
        self.assertEqual(self.told([("insert", "a", here)]), [])
        self.assertEqual(self.told([("insert", "a", here), ("set", "a", here, other)]), [])
        self.assertEqual(self.told([("delete", "a", here), ("insert", "a", other)]), above)
        self.assertEqual(self.told([("delete", "a", here), ("insert", "a", here)]), [])
        self.assertEqual(self.told([("set", "a", here, other), ("set", "a", other, here)]), [])

    def test_each_once(self):
        # Two changes of one row.
        changes = [("set", "b", (7, 0, 2), (7, 1, 3)), ("set", "b", (7, 1, 3), (7, 2, 1))]
        self.assertEqual(self.told(changes), [("below", "a", 1), ("below", "a", 2), ("above", "c", ("r",), 7),
                                              ("above", "c", ("s",), 7)])
        for seed in range(200):
            base, views, changes = any_case(random.Random(seed), 8)
            for index, view in enumerate(views):
                told = candidates(views, changes, index)
                self.assertEqual(len(told), len(set(told)))
                self.assertEqual(told, candidates([view], changes, 0))

    def test_as_told_plainly(self):
        for seed in range(300):
            base, views, changes = any_case(random.Random(seed), 8)
            schema, tables, effect = base.schema, tables_of(base), net(changes)
            keys = {(target, part) for (table, key), pair in effect.items() for row in pair if row
                    for (_, target), part in zip(schema.columns(table), row[1:]) if target and part in tables[target]}
            ordered = sorted(keys, key=lambda key: (schema.tables.index(key[0]), key[1]))
            told = [("below", *key) for key in ordered]
            ways = {0: ()}
            for node, (parent, reference, table) in enumerate(views[0].nodes):
                if parent is not None:
                    ways[node] = (*ways[parent], reference)
                    told += [("above", views[0].nodes[0][2], ways[node], key) for key in sorted(
                        key for where, key in effect if where == table and key in tables[table])]
            self.assertEqual(candidates(views, changes, 0), told)

    def test_new_lists(self):
        changes = [("insert", "c", (1, 0, 7, 5))]
        self.told(changes).clear()
        self.assertEqual(self.told(changes), [("below", "b", 5), ("below", "b", 7)])
        self.assertEqual(changes, [("insert", "c", (1, 0, 7, 5))])


class WithCase(unittest.TestCase):

    def shows(self, views, changes, index, questions):
        """Return whether a batch can be followed, having seen that all three functions agree."""
        told = can_follow_with(views, changes, index, questions)
        pair = doubt_with(views, changes, index, questions)
        self.assertIs(told, pair is None)
        if pair is not None:
            self.assertTrue(is_evidence(views, changes, index, pair))
            for question in questions:
                answers = [answered(base.schema, tables_of(base), question) for base in pair]
                self.assertEqual(answers[0], answers[1])
            self.assertIs(is_doubt_with(views, changes, index, questions, pair), True)
        return told


class WithTest(WithCase):

    def test_one_question(self):
        insert, up = [("insert", "shop", (5, 1, 3))], [("set", "region", (3, 1), (3, 10))]
        self.assertFalse(self.shows([BIG], insert, 0, []))
        self.assertTrue(self.shows([BIG], insert, 0, [("below", "region", 3)]))
        self.assertFalse(self.shows([BIG], up, 0, []))
        self.assertTrue(self.shows([BIG], up, 0, [("above", "shop", ("place",), 3)]))

    def test_questions_of_two_rows(self):
        view = View.parse(DEEP, "view c\n  follow r\n    shown p\n  follow s\n    range p 1 -")
        changes = [("insert", "c", (1, 0, 3, 4))]
        first, second = ("below", "b", 3), ("below", "b", 4)
        for questions, can in [([], False), ([first], False), ([second], False), ([first, second], True),
                               ([second, first], True)]:
            self.assertIs(self.shows([view], changes, 0, questions), can)
        self.assertEqual(fewest([view], changes, 0), [first, second])
        # Another view may tell the one of them.
        other = View.parse(DEEP, "view b\n  shown p\n  range p - 0")
        self.assertEqual(fewest([view, other], changes, 0), [first])

    def test_above_by_two_references(self):
        view = View.parse(DEEP, "view c\n  follow r\n    follow r\n      range p 1 -")
        changes = [("set", "a", (4, 0), (4, 1))]
        questions = [("above", "c", ("r", "r"), 4)]
        self.assertFalse(self.shows([view], changes, 0, []))
        self.assertTrue(self.shows([view], changes, 0, questions))
        self.assertEqual(fewest([view], changes, 0), questions)

    def test_a_question_of_a_told_row(self):
        # The batch tells row 2 of table b, but what is below it matters as well.
        changes = [("set", "b", (2, 0, 3), (2, 0, 5)), ("insert", "c", (1, 0, 2, 4)), ("insert", "c", (0, 0, 4, 2))]
        view = View.parse(DEEP, "view b\n  follow r\n    shown p")
        self.assertTrue(self.shows([view], changes, 0, [("below", "b", 2), ("below", "a", 5)]))
        self.assertFalse(self.shows([view], changes, 0, [("below", "b", 2)]))
        other = View.parse(DEEP, "view c\n  follow s\n    follow r\n      shown p")
        self.assertFalse(self.shows([other], changes, 0, [("below", "b", 2), ("below", "b", 4)]))
        self.assertFalse(self.shows([other], changes, 0, [("below", "b", 2), ("below", "a", 5)]))
        self.assertTrue(self.shows([other], changes, 0, [("below", "b", 4), ("below", "a", 5)]))

    def test_an_answer_tells_rows_that_no_view_follows(self):
        schema = Schema.parse("table a\n  plain p\ntable b\n  plain p\n  ref r a\ntable c\n  ref r b\n  ref s a")
        view = View.parse(schema, "view c\n  follow s\n    shown p")
        for told in ([], [("set", "b", (2, 0, 3), (2, 1, 3))]):
            changes = [*told, ("insert", "c", (1, 2, 3))]
            self.assertFalse(self.shows([view], changes, 0, []))
            self.assertTrue(self.shows([view], changes, 0, [("below", "a", 3)]))
            # Row 2 of table b leads to row 3 of table a if the batch tells so.
            self.assertIs(self.shows([view], changes, 0, [("below", "b", 2)]), told != [])

    def test_no_questions(self):
        for seed in range(150):
            base, views, changes = any_case(random.Random(seed))
            for index in range(len(views)):
                self.assertIs(self.shows(views, changes, index, []), can_follow(views, changes, index))

    def test_evidence(self):
        changes = [("insert", "shop", (5, 1, 3))]
        pair = tuple(Base(SHOPS, [("region", (3, size))]) for size in (10, 9))
        self.assertIs(is_doubt_with([BIG], changes, 0, [], pair), True)
        self.assertIs(is_doubt_with([BIG], changes, 0, [("below", "region", 3)], pair), False)
        self.assertIs(is_doubt_with([BIG], changes, 0, [], pair[:1] * 2), False)
        self.assertIs(is_doubt_with([BIG, REGIONS], changes, 0, [], pair), False)
        other = Schema.parse("table region\n  plain size")
        for value in [*ANY_VALUES, list(pair), (Base(other), Base(other)), pair[0], (pair[0], 5), pair * 2]:
            self.assertIs(is_doubt_with([BIG], changes, 0, [], value), False)
            self.assertIs(is_doubt_with([BIG], changes, 0, [("below", "region", 3)], value), False)

    def test_an_answer_of_rows_above_alone(self):
        up = [("set", "region", (3, 1), (3, 10))]
        first = Base(SHOPS, [("region", (3, 1)), ("shop", (5, 1, 3))])
        question = ("above", "shop", ("place",), 3)
        self.assertIs(is_doubt_with([BIG], up, 0, [], (first, Base(SHOPS, [("region", (3, 1))]))), True)
        self.assertIs(is_doubt_with([BIG], up, 0, [question], (first, Base(SHOPS, [("region", (3, 1))]))), False)


class FewestTest(WithCase):

    def test_all_candidates_are_always_enough(self):
        for seed in range(300):
            base, views, changes = any_case(random.Random(seed), 6, 4)
            for index in range(len(views)):
                self.assertTrue(self.shows(views, changes, index, candidates(views, changes, index)), seed)

    def test_as_few_as_possible(self):
        sizes = {}
        for seed in range(500):
            base, views, changes = any_case(random.Random(seed), 5, 4)
            for index in range(len(views)):
                told, possible = fewest(views, changes, index), candidates(views, changes, index)
                self.assertEqual([question for question in possible if question in told], told)
                self.assertTrue(self.shows(views, changes, index, told))
                for at in range(len(told)):
                    self.assertFalse(self.shows(views, changes, index, told[:at] + told[at + 1:]))
                smaller = list(itertools.combinations(possible, len(told) - 1)) if told else []
                for questions in smaller[:30]:
                    self.assertFalse(self.shows(views, changes, index, list(questions)), seed)
                sizes[len(told)] = sizes.get(len(told), 0) + 1
        self.assertTrue({0, 1, 2} <= set(sizes), sizes)

    def test_none(self):
        self.assertEqual(fewest([BIG], [("delete", "shop", (5, 1, 3))], 0), [])
        self.assertEqual(fewest([BIG, REGIONS], [("insert", "shop", (5, 1, 3))], 0), [])
        self.assertEqual(fewest([BIG], [], 0), [])

    def test_bases_do_not_contradict(self):
        for seed in range(150):
            chance = random.Random(seed)
            base, views, changes = any_case(chance, 2)
            possible = candidates(views, changes, 0)
            questions = [question for question in possible if chance.random() < 0.5]
            if not self.shows(views, changes, 0, questions):
                continue
            found = {}
            for _ in range(60):
                other = any_base(chance, base.schema, 3, (0, 1, 2))
                if other.is_allowed(changes):
                    tables = tables_of(other)
                    key = repr([[sorted(shown_by(view, tables).items()) for view in views],
                                [answered(base.schema, tables, question) for question in questions]])
                    behind = shown_by(views[0], made(base.schema, tables, changes))
                    self.assertEqual(found.setdefault(key, behind), behind)


class FollowedWithTest(unittest.TestCase):

    def test_one_answer(self):
        insert = [("insert", "shop", (5, 1, 3))]
        question = ("below", "region", 3)
        self.assertEqual(followed_with([BIG], [{}], insert, [(question, [("region", (3, 12))])]), [{5: ((5, 3), (12,))}])
        self.assertEqual(followed_with([BIG], [{}], insert, [(question, [("region", (3, 9))])]), [{}])
        up = [("set", "region", (3, 1), (3, 10))]
        told = [("region", (3, 1)), ("shop", (5, 1, 3)), ("shop", (6, 0, 3))]
        self.assertEqual(followed_with([BIG], [{}], up, [(("above", "shop", ("place",), 3), told)]),
                         [{5: ((5, 3), (10,)), 6: ((6, 3), (10,))}])
        self.assertEqual(followed_with([BIG], [{}], up, [(("above", "shop", ("place",), 3), [])]), [{}])

    def test_the_first_view_that_cannot_be_followed(self):
        insert = [("insert", "shop", (5, 1, 3))]
        answers = [(("below", "region", 3), [("region", (3, 12))])]
        for views, answers, index in [([BIG], [], 0), ([PLACES, BIG], [], 1), ([PLACES, BIG, BIG], [], 1)]:
            with self.assertRaises(NotFollowed) as caught:
                followed_with(views, [{} for _ in views], insert, answers)
            self.assertEqual(caught.exception.index, index)

    def test_with_the_answers_of_a_base(self):
        asked = 0
        for seed in range(600):
            chance = random.Random(seed)
            base, views, changes = any_case(chance, 6, 4)
            tables = tables_of(base)
            questions = {question: True for index in range(len(views)) for question in (
                fewest(views, changes, index) if chance.random() < 0.8 else candidates(views, changes, index))}
            asked += len(questions)
            before = [shown_by(view, tables) for view in views]
            answers = [(question, answered(base.schema, tables, question)) for question in questions]
            chance.shuffle(answers)
            behind = [shown_by(view, made(base.schema, tables, changes)) for view in views]
            self.assertEqual(followed_with(views, before, changes, answers), behind, seed)
        self.assertTrue(asked > 200)

    def test_nothing_is_changed(self):
        base = Base(SHOPS, [("region", (3, 12))])
        views, changes = [BIG], [("insert", "shop", (5, 1, 3))]
        told, answers = [contents(BIG, base)], [(("below", "region", 3), answer(base, ("below", "region", 3)))]
        new = followed_with(views, told, changes, answers)
        new[0].clear()
        self.assertEqual([views, told, changes, answers], [
            [BIG], [{}], [("insert", "shop", (5, 1, 3))], [(("below", "region", 3), [("region", (3, 12))])]])
        self.assertEqual(followed_with(views, told, changes, answers), [{5: ((5, 3), (12,))}])


if __name__ == "__main__":
    unittest.main()

"""Point 23: holders beside a base."""

import copy
import random
import unittest

from makers import BIG, PLACES, REGIONS, SCHEMAS, SHOPS, any_base, any_batch, any_view
from onlyviews.bases import Base
from onlyviews.faults import AnswerError, InvalidRule, NoRule, NotOffered, NotShown
from onlyviews.holders import Holder
from onlyviews.making import make_rule
from onlyviews.reasons import reasons
from onlyviews.rules import parse_rule
from onlyviews.schemas import Schema
from onlyviews.views import View, contents
from oracle import made, shown_by, tables_of
from rulemakers import Names, any_tree, spoilt
from samples import ANY_VALUES, nested

SMALL = View.parse(SHOPS, "view shop\n  follow place\n    range size - 10")
INSERT = [("insert", "shop", (5, 1, 3))]
VIEWS = [PLACES, REGIONS]


def filled():
    return Base(SHOPS, [("region", (3, 12)), ("region", (4, 2)), ("shop", (6, 0, 4))])


def shown_rule(views, changes, view):
    """Return a right rule and its reasons."""
    rule = make_rule(views, changes, view)
    return rule, reasons(views, changes, view, rule)


def state(holder, views, asked):
    """Return all that a holder tells."""
    found = [[holder.contents(index) for index in range(len(views))], holder.history(), len(holder)]
    for view, changes in asked:
        try:
            found.append(holder.ask(view, changes))
        except NotOffered:
            found.append(None)
    return found


ASKED = [(view, changes) for view in (PLACES, REGIONS, SMALL, BIG) for changes in ([], INSERT)]


class HolderCase(unittest.TestCase):

    def refuses(self, holder, call, error, *given, **told):
        before = state(holder, VIEWS, ASKED)
        with self.assertRaises(error) as caught:
            call(*given)
        self.assertIsInstance(caught.exception, AnswerError)
        self.assertEqual({name: getattr(caught.exception, name) for name in told}, told)
        self.assertEqual(state(holder, VIEWS, ASKED), before)

    def offered(self, views=VIEWS, base=None, batches=(INSERT,), asked=()):
        """Return a holder with rules for batches and all its views, and for some pairs (view, batch)."""
        holder = Holder(views, base)
        for view, changes in [*[(view, changes) for changes in batches for view in views], *asked]:
            holder.offer(changes, view, *shown_rule(views, changes, view))
        return holder


class ContentsTest(HolderCase):

    def test_without_a_base(self):
        for holder in (Holder(VIEWS), Holder(VIEWS, None), Holder(views=VIEWS, base=None), Holder(VIEWS, Base(SHOPS))):
            self.assertEqual(state(holder, VIEWS, []), [[{}, {}], [], 0])

    def test_with_a_base(self):
        holder = Holder(base=filled(), views=VIEWS)
        self.assertEqual([holder.contents(0), holder.contents(index=1)], [{6: ((6, 4), ())}, {3: ((3,), (12,)), 4: ((4,), (2,))}])
        self.assertEqual([holder.history(), len(holder)], [[], 0])

    def test_what_was_handed_in_may_be_changed(self):
        views, base, changes = list(VIEWS), filled(), list(INSERT)
        holder = Holder(views, base)
        views.clear()
        base.make([("delete", "shop", (6, 0, 4))])
        for view in VIEWS:
            rule, shown = shown_rule(VIEWS, changes, view)
            given = copy.deepcopy([changes, rule, shown])
            holder.offer(changes, view, rule, shown)
            self.assertEqual([changes, rule, shown], given)
            shown.clear()
        self.assertEqual(holder.contents(0), {6: ((6, 4), ())})
        holder.take(changes)
        changes.clear()
        self.assertEqual(holder.history(), [INSERT])
        self.assertEqual(holder.contents(0), {5: ((5, 3), ()), 6: ((6, 4), ())})
        self.assertEqual(holder.ask(PLACES, INSERT), {5: ((5, 3), ()), 6: ((6, 4), ())})

    def test_new_lists_and_dicts(self):
        holder = self.offered(base=filled(), asked=[(SMALL, [])])
        holder.take(INSERT)
        before = state(holder, VIEWS, ASKED)
        holder.contents(0).clear()
        holder.history().clear()
        holder.history()[0].clear()
        holder.ask(SMALL).clear()
        self.assertEqual(state(holder, VIEWS, ASKED), before)


class OfferTest(HolderCase):

    def test_a_rule_that_is_taken(self):
        holder = Holder(VIEWS, filled())
        rule, shown = shown_rule(VIEWS, [], SMALL)
        self.assertIsNone(holder.offer([], SMALL, rule, shown))
        self.assertEqual([len(holder), holder.ask(SMALL)], [1, {6: ((6, 4), ())}])
        self.assertIsNone(holder.offer(reasons=shown, rule=rule, view=SMALL, changes=[]))
        self.assertEqual(len(holder), 1)

    def test_no_rule(self):
        holder = self.offered(base=filled())
        rule, shown = shown_rule(VIEWS, [], SMALL)
        for value in ANY_VALUES + [list(rule), rule[:-1], parse_rule("row t |"), parse_rule("in 2 t\n  none\nelse\n  none"),
                                   parse_rule("is 5\n  none\nelse\n  none"), (rule,), Base(SHOPS), SMALL]:
            for given in (shown, None, [], value):
                self.refuses(holder, holder.offer, InvalidRule, [], SMALL, value, given)

    def test_reasons_that_are_none(self):
        holder = self.offered(base=filled())
        rule, shown = shown_rule(VIEWS, [], SMALL)
        other = shown_rule(VIEWS, [], PLACES)[1]
        for value in ANY_VALUES + [shown[:-1], shown[::-1], tuple(shown), other, [shown], Base(SHOPS), rule] + nested(shown, 3):
            self.refuses(holder, holder.offer, NotShown, [], SMALL, rule, value)
        wrong = parse_rule("in 0 t\n  row t t/0.1 |\nelse\n  none")
        for value in (shown, other, None, reasons(VIEWS, [], SMALL, wrong)):
            self.refuses(holder, holder.offer, NotShown, [], SMALL, wrong, value)
        # Neither a rule nor reasons.
        self.refuses(holder, holder.offer, InvalidRule, [], SMALL, None, None)

    def test_reasons_of_another_batch(self):
        holder = Holder(VIEWS, filled())
        rule, shown = shown_rule(VIEWS, [], PLACES)
        self.refuses(holder, holder.offer, NotShown, INSERT, PLACES, rule, shown)
        rule, shown = shown_rule(VIEWS, INSERT, PLACES)
        self.refuses(holder, holder.offer, InvalidRule, [], PLACES, rule, shown)

    def test_offered_again(self):
        holder = Holder(VIEWS, filled())
        rule, shown = shown_rule(VIEWS, [], SMALL)
        holder.offer([], SMALL, rule, shown)
        longer = ("in", 0, "t", rule, ("none",))
        holder.offer([], SMALL, longer, reasons(VIEWS, [], SMALL, longer))
        self.assertEqual([len(holder), holder.ask(SMALL)], [1, {6: ((6, 4), ())}])
        self.refuses(holder, holder.offer, NotShown, [], SMALL, longer, shown)

    def test_batches_that_are_equal_as_lists(self):
        holder = Holder(VIEWS, filled())
        holder.offer((), SMALL, *shown_rule(VIEWS, [], SMALL))
        self.assertEqual([holder.ask(SMALL), holder.ask(SMALL, []), holder.ask(SMALL, ())], [{6: ((6, 4), ())}] * 3)
        holder.offer([], SMALL, *shown_rule(VIEWS, (), SMALL))
        self.assertEqual(len(holder), 1)
        both = [("insert", "shop", (5, 1, 3)), ("insert", "shop", (7, 1, 3))]
        holder.offer(both, PLACES, *shown_rule(VIEWS, both, PLACES))
        self.assertEqual(len(holder.ask(PLACES, tuple(both))), 3)
        # The same changes in another order are another batch.
        self.refuses(holder, holder.ask, NotOffered, PLACES, both[::-1])
        holder.offer(both[::-1], PLACES, *shown_rule(VIEWS, both[::-1], PLACES))
        self.assertEqual(len(holder), 3)

    def test_equal_views(self):
        again = View.parse(Schema.parse(str(SHOPS)), str(PLACES))
        holder = Holder([PLACES, again], filled())
        holder.offer(INSERT, again, *shown_rule([PLACES, again], INSERT, PLACES))
        self.assertEqual(len(holder), 1)
        holder.take(INSERT)
        self.assertEqual([holder.contents(0), holder.contents(1)], [{5: ((5, 3), ()), 6: ((6, 4), ())}] * 2)
        holder.forget(PLACES, INSERT)
        self.assertEqual(len(holder), 0)


class TakeTest(HolderCase):

    def test_some_batches(self):
        base = filled()
        delete = [("delete", "shop", (6, 0, 4)), ("set", "region", (4, 2), (4, 20))]
        holder = self.offered(base=base, batches=[INSERT, delete, []])
        for changes in (INSERT, delete, [], ()):
            self.assertIsNone(holder.take(changes))
            base.make(changes)
            self.assertEqual([holder.contents(index) for index in (0, 1)], [contents(view, base) for view in VIEWS])
        self.assertEqual(holder.history(), [INSERT, delete, [], []])
        self.assertEqual(len(holder), 6)
        self.assertIsNone(self.offered().take(changes=INSERT))

    def test_rules_for_some_views_alone(self):
        holder = Holder(VIEWS, filled())
        self.refuses(holder, holder.take, NoRule, INSERT, index=0)
        holder.offer(INSERT, REGIONS, *shown_rule(VIEWS, INSERT, REGIONS))
        self.refuses(holder, holder.take, NoRule, INSERT, index=0)
        holder.offer(INSERT, PLACES, *shown_rule(VIEWS, INSERT, PLACES))
        self.refuses(holder, holder.take, NoRule, [], index=0)
        holder.forget(REGIONS, INSERT)
        self.refuses(holder, holder.take, NoRule, INSERT, index=1)
        holder.offer(INSERT, SMALL, *shown_rule(VIEWS, INSERT, SMALL))
        self.refuses(holder, holder.take, NoRule, INSERT, index=1)
        holder.offer(INSERT, REGIONS, *shown_rule(VIEWS, INSERT, REGIONS))
        holder.take(INSERT)
        self.assertEqual(holder.history(), [INSERT])

    def test_all_views_ahead_of_the_batch(self):
        # The rules of later views look at the contents that the earlier ones had.
        batch = [("set", "region", (4, 2), (4, 3)), ("insert", "shop", (5, 1, 4))]
        views = [REGIONS, View.parse(SHOPS, "view shop\n  follow place\n    shown size"), PLACES]
        holder = self.offered(views, filled(), [batch])
        holder.take(batch)
        self.assertEqual([holder.contents(index) for index in range(3)], [
            {3: ((3,), (12,)), 4: ((4,), (3,))}, {5: ((5, 4), (3,)), 6: ((6, 4), (3,))}, {5: ((5, 4), ()), 6: ((6, 4), ())}])

    def test_no_views(self):
        holder = Holder([], filled())
        holder.take(INSERT)
        holder.take([])
        self.assertEqual([holder.history(), len(holder)], [[INSERT, []], 0])
        never = View.parse(SHOPS, "view shop\n  range open 2 1")
        holder.offer([], never, ("none",), reasons([], [], never, ("none",)))
        self.assertEqual([holder.ask(never), len(holder)], [{}, 1])
        holder.back(2)
        self.assertEqual(holder.history(), [])


class AskTest(HolderCase):

    def test_behind_batches(self):
        holder = self.offered(base=filled(), asked=[(SMALL, []), (SMALL, INSERT), (BIG, [])])
        self.assertEqual([holder.ask(SMALL), holder.ask(SMALL, INSERT), holder.ask(changes=(), view=SMALL)],
                         [{6: ((6, 4), ())}] * 3)
        self.assertEqual(holder.ask(BIG), {})
        holder.take(INSERT)
        self.assertEqual([holder.ask(BIG), holder.ask(SMALL), holder.history()], [{5: ((5, 3), (12,))}, {6: ((6, 4), ())}, [INSERT]])

    def test_nothing_offered(self):
        holder = self.offered(base=filled(), asked=[(SMALL, [])])
        for view, changes in [(PLACES, []), (SMALL, INSERT), (BIG, []), (BIG, INSERT), (PLACES, INSERT * 2)]:
            self.refuses(holder, holder.ask, NotOffered, view, changes)
            self.refuses(holder, holder.forget, NotOffered, view, changes)
        self.refuses(holder, holder.ask, NotOffered, PLACES)
        self.refuses(holder, holder.forget, NotOffered, PLACES)

    def test_forgetting(self):
        holder = self.offered(base=filled(), asked=[(SMALL, []), (SMALL, INSERT)])
        self.assertEqual(len(holder), 4)
        self.assertIsNone(holder.forget(SMALL))
        self.assertEqual(len(holder), 3)
        self.refuses(holder, holder.forget, NotOffered, SMALL)
        self.assertEqual(holder.ask(SMALL, INSERT), {6: ((6, 4), ())})
        self.assertIsNone(holder.forget(changes=INSERT, view=SMALL))
        self.refuses(holder, holder.ask, NotOffered, SMALL, INSERT)
        holder.offer([], SMALL, *shown_rule(VIEWS, [], SMALL))
        self.assertEqual([len(holder), holder.ask(SMALL)], [3, {6: ((6, 4), ())}])


class BackTest(HolderCase):

    def test_back_and_on_again(self):
        delete = [("delete", "shop", (5, 1, 3))]
        holder = self.offered(base=filled(), batches=[INSERT, delete])
        states = [state(holder, VIEWS, ASKED)]
        for changes in (INSERT, delete, INSERT):
            holder.take(changes)
            states.append(state(holder, VIEWS, ASKED))
        self.assertIsNone(holder.back(0))
        self.assertEqual(state(holder, VIEWS, ASKED), states[3])
        holder.back(1)
        self.assertEqual(state(holder, VIEWS, ASKED), states[2])
        holder.back(many=2)
        self.assertEqual(state(holder, VIEWS, ASKED), states[0])
        holder.back(0)
        for at, changes in enumerate((INSERT, delete, INSERT), 1):
            holder.take(changes)
            self.assertEqual(state(holder, VIEWS, ASKED), states[at])
        holder.back(3)
        self.assertEqual(state(holder, VIEWS, ASKED), states[0])

    def test_rules_stay(self):
        holder = self.offered(base=filled())
        holder.take(INSERT)
        holder.offer([], SMALL, *shown_rule(VIEWS, [], SMALL))
        holder.back(1)
        self.assertEqual([len(holder), holder.ask(SMALL), holder.history()], [3, {6: ((6, 4), ())}, []])


class ForkTest(HolderCase):

    def test_forks_go_on_by_themselves(self):
        first = self.offered(base=filled(), asked=[(SMALL, [])])
        first.take(INSERT)
        second = first.fork()
        self.assertEqual(state(first, VIEWS, ASKED), state(second, VIEWS, ASKED))
        before = state(first, VIEWS, ASKED)
        second.forget(SMALL)
        second.back(1)
        second.offer(INSERT, BIG, *shown_rule(VIEWS, INSERT, BIG))
        self.assertEqual(state(first, VIEWS, ASKED), before)
        other = state(second, VIEWS, ASKED)
        self.assertNotEqual(other, before)
        first.back(1)
        first.offer([], PLACES, *shown_rule(VIEWS, [], PLACES))
        first.offer([], REGIONS, *shown_rule(VIEWS, [], REGIONS))
        first.take([])
        self.assertEqual(state(second, VIEWS, ASKED), other)
        self.assertEqual([first.history(), second.history()], [[[]], []])
        second.take(INSERT)
        self.assertEqual(first.contents(0), {6: ((6, 4), ())})


class BesideTest(HolderCase):

    def test_beside_a_base(self):
        """Whatever is offered, contents are those in the base, and answers those behind the batch."""
        told = {"taken": 0, "refused": 0, "asked": 0, "wrong": 0}
        for seed in range(160):
            chance = random.Random(seed)
            schema = chance.choice(SCHEMAS)
            views = [any_view(chance, schema) for _ in range(chance.choice([0, 1, 2]))]
            if sum(len(view.ranges) for view in views) > 4:
                continue
            base = any_base(chance, schema)
            holder, past = Holder(views, base), [base.fork()]
            for _ in range(6):
                changes = any_batch(chance, past[-1], chance.choice([0, 1, 2]))
                for view in [*views, any_view(chance, schema)]:
                    if sum(len(each.ranges) for each in [*views, view]) <= 6:
                        self.offers(chance, holder, views, changes, view, told)
                        self.asks(holder, past[-1], changes, view, told)
                try:
                    holder.take(changes)
                    told["taken"] += 1
                    past.append(past[-1].fork())
                    past[-1].make(changes)
                except NoRule as error:
                    told["refused"] += 1
                    self.assertRaises(NotOffered, holder.ask, views[error.index], changes)
                if chance.random() < 0.2:
                    many = chance.randrange(len(past))
                    holder.back(many)
                    del past[len(past) - many:]
                self.assertEqual([holder.contents(index) for index in range(len(views))], [contents(view, past[-1]) for view in views])
                self.assertEqual(len(holder.history()), len(past) - 1)
        self.assertGreater(min(told.values()), 20)

    def offers(self, chance, holder, views, changes, view, told):
        """Offer a right rule, and some that may be wrong."""
        rule = make_rule(views, changes, view)
        rules = [any_tree(chance, Names(views, changes, view), [4])]
        if rule is not None:
            rules += [rule, spoilt(chance, views, changes, view, rule)]
        for each in rules:
            shown = None if each is None else reasons(views, changes, view, each)
            try:
                holder.offer(changes, view, each, shown if shown is not None or rule is None else reasons(views, changes, view, rule))
            except (InvalidRule, NotShown):
                told["wrong"] += 1

    def asks(self, holder, base, changes, view, told):
        """See that a holder's answer is right, if it has one."""
        try:
            found = holder.ask(view, changes)
        except NotOffered:
            return
        told["asked"] += 1
        self.assertEqual(found, shown_by(view, made(base.schema, tables_of(base), changes)))


if __name__ == "__main__":
    unittest.main()

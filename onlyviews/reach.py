"""What may be asked and named at a place of a rule."""

from onlyviews.ground import AHEAD, beyond
from onlyviews.rulenames import ROOT, node_name, read_told_name, told_name, value_name
from onlyviews.rules import find_id, find_value
from onlyviews.spots import cuts_of


class Reach:
    """The names that may stand behind some answers, or behind questions that all of some samples answer with yes.

    names has tuples (name, place, needs) with one name for each place, told_values tuples (name, place, column, needs);
    needs are the questions that must be asked ahead.
    """

    def __init__(self, ground, asked, samples):
        """Take pairs (answer, question) by the keys of the questions that were asked, and samples that lead there."""
        self._ground = ground
        self._asked = asked
        self._samples = samples
        self.names = []
        self.told_values = []
        # The names and needs of places, and which values are told.
        self._at = {}
        self._known = {}
        for name in [ROOT] + list(ground.told_keys):
            self._add_row(name, (name, (), AHEAD), ())
        # What was asked comes first, by the names with which it was: places have names without needs where they may.
        for answer, question in asked.values():
            if answer and question[0] == "in":
                self._open(question, ())
        self._open_all()
        self._near = self._find_near()

    def _open_all(self):
        """Add what views show for all rows, also for those that are added, where all samples answer yes."""
        at = 0
        while at < len(self.names):
            name, place, needs = self.names[at]
            for question in [("in", number, name) for number in self._views_of(place)]:
                if question_key(self._ground, question) not in self._asked and self._is_sure(question):
                    self._open(question, needs + (question,))
            at += 1

    def _is_sure(self, question):
        return all([sample.answer(question) for sample in self._samples])

    def _views_of(self, place):
        """Return the numbers of the kept views with the table of a place."""
        table = self._ground.place_table(place)
        return [number for number, view in enumerate(self._ground.views) if view.nodes[0][2] == table]

    def _open(self, question, needs):
        """Add what may be named by the answer yes to a question in."""
        word, number, name = question
        place = self._ground.place_of(name)
        view = self._ground.views[number]
        for node in range(1, len(view.nodes)):
            self._add_row(node_name(name, number, node), beyond(place, self._ground.path_to(number, node)), needs)
        for at, (node, column) in enumerate(view.shown):
            shown = (beyond(place, self._ground.path_to(number, node)), column)
            if shown not in self._known:
                self._known[shown] = True
                self.told_values.append((value_name(name, number, at), shown[0], column, needs))

    def _add_row(self, name, place, needs):
        if place not in self._at:
            self._at[place] = (name, needs)
            self.names.append((name, place, needs))

    def questions(self):
        """Return the list of pairs (question, needs) of what may be asked and was not yet."""
        ground = self._ground
        ends = ends_of(ground)
        found = [(("is", read_told_name(told)[1]), ()) for told in ground.named[ground.table]]
        for name, place, needs in self.names:
            found.extend([(("in", number, name), needs) for number in self._views_of(place)])
            if place[1]:
                told = ground.named[ground.place_table(place)]
                found.extend([(("same", name, read_told_name(each)[1]), needs) for each in told])
        for name, place, column, needs in self.told_values:
            found.extend([(("below", name, end), needs) for end in ends.get((ground.place_table(place), column), [])])
        return [pair for pair in found if question_key(ground, pair[0]) not in self._asked]

    def is_near(self, question):
        """Return True if a question asks about t, or a row to which t is known to lead."""
        if question[0] == "is":
            return True
        place = self._ground.place_of(question[1]) if question[0] == "same" else self._place_asked(question)
        return place[0] in self._near

    def _find_near(self):
        """Return a dict with the names of t, and of the rows to which it is known to lead by some answer yes."""
        found = [ROOT]
        for answer, question in self._asked.values():
            if answer and question[0] == "is":
                found.append(told_name((self._ground.table, question[1])))
            elif answer and question[0] == "same":
                table = self._ground.place_table(self._ground.place_of(question[1]))
                found.append(told_name((table, question[2])))
        at = 0
        while at < len(found):
            found.extend([name for name in self._ground.led_names(found[at]) if name not in found])
            at += 1
        return {name: True for name in found}

    def identities(self, question):
        """Return the list of pairs (question, needs) of whether a row that is asked about, or one on the way to it, is
        one that the batch changes, as far as this was not asked and may be."""
        name, path, moment = self._place_asked(question)
        found = []
        for many in range(len(path) + 1):
            place = (name, path[:many], moment)
            told = self._identities_at(place)
            keys = [question_key(self._ground, pair[0]) for pair in told]
            if any([key in self._asked and self._asked[key][0] for key in keys]):
                return []
            found.extend([pair for key, pair in zip(keys, told) if key not in self._asked])
        return found

    def _place_asked(self, question):
        """Return the place of the row about which a question in or below asks."""
        if question[0] == "in":
            return self._ground.place_of(question[2])
        return self._ground.value_place_of(question[1])[0]

    def _identities_at(self, place):
        """Return pairs (question, needs) of whether the row at a place is one of those that the batch changes."""
        table = self._ground.place_table(place)
        if not place[1]:
            keys = [read_told_name(told)[1] for told in self._ground.named[table] if self._ground.is_changed(told)]
            return [(("is", key), ()) for key in keys] if place[0] == ROOT else []
        if place not in self._at:
            return []
        name, needs = self._at[place]
        keys = [read_told_name(told)[1] for told in self._ground.steady[table] if self._ground.is_changed(told)]
        return [(("same", name, key), needs) for key in keys]

    def id_parts(self, node):
        """Return the list of tuples (name, needs, fits) of the names that may stand for the id at a node; fits tells of
        each sample whether it allows the name."""
        table = self._ground.view.nodes[node][2]
        found = [(name, needs, [find_id(sample.kept, name, sample.key) for sample in self._samples])
                 for name, place, needs in self.names if self._ground.place_table(place) == table]
        ids = [sample.row[0][node] for sample in self._samples]
        return [(name, needs, [one == other for one, other in zip(told, ids)]) for name, needs, told in found]

    def value_parts(self, at):
        """Return the same for a value, with names and the integers of samples."""
        found = [(name, needs, [find_value(sample.kept, name, sample.key) for sample in self._samples])
                 for name, place, column, needs in self.told_values]
        values = [sample.row[1][at] for sample in self._samples]
        found.extend([(value, (), [value for sample in self._samples]) for value in sorted(set(values))])
        return [(part, needs, [one == other for one, other in zip(told, values)]) for part, needs, told in found]


def ends_of(ground):
    """Return the dict from (table, column) to the integers that ranges tell from the next lower ones, those of the view
    first."""
    found = cuts_of([ground.view])
    for key, cuts in cuts_of(ground.views).items():
        told = found.get(key, [])
        found[key] = told + [cut for cut in cuts if cut not in told]
    return found


def question_key(ground, question):
    """Return what tells a question from those that ask other things."""
    if question[0] == "is":
        return question
    if question[0] == "in":
        return "in", question[1], ground.place_of(question[2])
    if question[0] == "same":
        return "same", question[2], ground.place_of(question[1])
    return "below", question[2], ground.value_place_of(question[1])

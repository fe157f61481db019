"""Keepers beside a base, which they look at by questions alone."""

from onlyviews.alike import all_contents
from onlyviews.asking import answer, fewest, followed_with


class Asker:
    """Contents of kept views, and the base of which questions are asked."""

    def __init__(self, views, base):
        self._views = list(views)
        self._base = base.fork()
        self._kept = all_contents(views, base)
        self._asked = 0

    @property
    def asked(self):
        """The number of all questions that were asked so far."""
        return self._asked

    def tell(self, changes):
        """Make a batch and follow it, or raise NotAllowed(index); return the list of the questions that were asked."""
        later = self._base.fork()
        later.make(changes)
        answers = self._answers(changes)
        self._kept = followed_with(self._views, self._kept, changes, answers)
        self._base = later
        self._asked += len(answers)
        return [question for question, told in answers]

    def _answers(self, changes):
        """Return the list of pairs of a question that a view needs and its answer."""
        answers = []
        for index in range(len(self._views)):
            asked = [question for question, told in answers]
            for question in fewest(self._views, changes, index):
                if question not in asked:
                    answers.append((question, answer(self._base, question)))
        return answers

    def contents(self, index):
        """Return the contents of a view."""
        return {key: row for key, row in self._kept[index].items()}

    def base(self):
        """Return a copy of the base."""
        return self._base.fork()

    def fork(self):
        """Return an asker with the same base and contents that is independent of this one."""
        other = Asker(self._views, self._base)
        other._kept = list(self._kept)
        other._asked = self._asked
        return other

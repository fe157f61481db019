"""A base with an id that leads to a place of a rule, by which its questions and leaves are chosen."""

from onlyviews.deciding import contents_behind
from onlyviews.models import Model
from onlyviews.rules import is_yes
from onlyviews.views import contents


class Sample:
    """What kept views show in a base, and the row that the view has for an id behind the batch, or None."""

    def __init__(self, ground, changes, situation):
        model = Model(situation)
        base = model.base()
        self.key = model.root_id()
        self.kept = [contents(view, base) for view in ground.views]
        self.row = contents_behind(ground.view, base, changes).get(self.key)

    def answer(self, question):
        """Return whether the answer to a question of a rule is yes."""
        return is_yes(self.kept, question, self.key)

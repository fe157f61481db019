"""New contents of kept views from the old ones, and keepers."""

from onlyviews.alike import all_contents
from onlyviews.deciding import can_follow
from onlyviews.errors import NotFollowed
from onlyviews.fitting import new_contents


def followed(views, contents, changes):
    """Return the list of the new contents of all kept views, or raise NotFollowed(index)."""
    for index in range(len(views)):
        if not can_follow(views, changes, index):
            raise NotFollowed(index)
    return new_contents(views, contents, changes, [])


class Keeper:
    """Contents of kept views, and the changes that wait to be followed."""

    def __init__(self, views, base=None):
        self._views = list(views)
        self._kept = [{} for view in views] if base is None else all_contents(views, base)
        self._waiting = []

    def tell(self, changes):
        """Put changes behind those that wait; return True if all of them were followed, otherwise False."""
        together = self._waiting + list(changes)
        try:
            self._kept = followed(self._views, self._kept, together)
        except NotFollowed:
            self._waiting = together
            return False
        self._waiting = []
        return True

    def waiting(self):
        """Return the list of the changes that wait."""
        return list(self._waiting)

    def contents(self, index):
        """Return the contents of a view as they were when nothing waited last."""
        return {key: row for key, row in self._kept[index].items()}

    def fork(self):
        """Return a keeper with the same contents and waiting changes that is independent of this one."""
        other = Keeper(self._views)
        other._kept = list(self._kept)
        other._waiting = list(self._waiting)
        return other

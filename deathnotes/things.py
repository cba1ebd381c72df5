"""A thing, as its owner keeps it."""

from deathnotes.counts import take_one


class Thing:
    """A thing that stands: its worth, the units that it has, and who has units of it."""

    def __init__(self, worth, owner):
        self.worth = worth
        # How many units of each handle this thing has.
        self.links = {}
        # How many units of this thing each house has, itself and by its things.
        # A unit under way counts for its getter from the owner's letter on, and
        # a dropped one for its dropper until the owner takes the drop: so the
        # owner never counts less than there are.
        self.had = {owner: 1}

    def lose(self, house):
        """Take back a unit that the house or one of its things had."""
        take_one(self.had, house)

    def lose_all(self, house):
        """Take back all units that the house and its things had."""
        self.had.pop(house, None)

    def linked(self):
        """Tell the handles of which this thing has units, each as often as it has one."""
        handles = []
        for handle, many in self.links.items():
            handles.extend([handle] * many)
        return handles

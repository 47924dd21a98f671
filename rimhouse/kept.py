"""Houses that come, go and are altered, and back, with their shares at each time."""

from rimhouse.deeds import with_another, with_one_more, without
from rimhouse.errors import NothingLeft
from rimhouse.rims import rim_of
from rimhouse.shares import share


def changes(ahead, behind):
    """A tuple (number, was, is) for each share that has changed from one list to the other."""
    return [(number, was, now) for number, (was, now) in enumerate(zip(ahead, behind)) if was != now]


class Kept:
    """Houses with like counts of takes and gives, and what they are worth by some sizes."""

    def __init__(self, takes, gives, sizes):
        self.many_takes = takes
        self.many_gives = gives
        self.sizes = sizes
        self.there = []
        self.worth = []
        self.past = []

    def turn_to(self, houses):
        """Keeps these houses from now on, and for back those that were there."""
        worth = [share(houses, number, self.sizes) for number in range(len(houses))]
        self.past.append((self.there, self.worth))
        # Lists are put in the place of others, never changed, so those of the past stay as they were.
        self.there = houses
        self.worth = worth

    def come(self, house):
        """A house comes, behind all others: told are its share and the changes."""
        ahead = self.worth
        self.turn_to(with_one_more(self.there, house, self.many_takes, self.many_gives))
        return (self.worth[-1], changes(ahead, self.worth[:-1]))

    def go(self, number):
        """A house goes: told are the changes, by the numbers behind it."""
        houses = without(self.there, number)
        ahead = without(self.worth, number)
        self.turn_to(houses)
        return changes(ahead, self.worth)

    def alter(self, number, house):
        """Another house stands in the place of one: told are the changes, its own too."""
        ahead = self.worth
        self.turn_to(with_another(self.there, number, house, self.many_takes, self.many_gives))
        return changes(ahead, self.worth)

    def back(self):
        """The last deed that is not taken back is taken back."""
        if not self.past:
            raise NothingLeft("no deed is left that could be taken back")
        self.there, self.worth = self.past.pop()

    def houses(self):
        """The list of the houses that are there."""
        return list(self.there)

    def shares(self):
        """The list of their shares."""
        return list(self.worth)

    def rim(self):
        """The rising list of the numbers of those on the rim."""
        return rim_of(self.there, self.sizes)

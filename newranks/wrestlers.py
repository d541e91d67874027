"""The wrestlers of one list, what they have earned, and whether a new list can be."""

MOST_WORTH = 30
MOST_BOUTS = 15
MOST_WRESTLERS = 6
PLACE = 10  # Worth, earned and off are told in tenths of a place.


class NotAllowed(Exception):
    """A number is too large, or a new list doesn't have each rank once."""


class NoRoom(Exception):
    """The list has as many wrestlers as it may have."""


class CannotBe(Exception):
    """In a new list somebody falls or rises who must not."""

    def __init__(self, who):
        self.who = who


class Tournament:
    """A list: what a win more is worth and, in the order of the old ranks, each one's wins more than losses."""

    def __init__(self):
        self.worth = 0
        self.wins_more = []

    def begins(self, worth):
        """Begin a list without wrestlers."""
        if worth > MOST_WORTH:
            raise NotAllowed()
        self.worth = worth
        self.wins_more = []

    def wrestler(self, won, lost):
        """Add a wrestler behind the others and give the number."""
        if won + lost > MOST_BOUTS:
            raise NotAllowed()
        if len(self.wins_more) == MOST_WRESTLERS:
            raise NoRoom()
        self.wins_more.append(won - lost)
        return len(self.wins_more) - 1

    def check(self, new_list):
        """Give how far all are off together by a list that can be, and how far the one who's off the most."""
        if not self.has_each_rank_once(new_list):
            raise NotAllowed()
        for old, new in enumerate(new_list):
            if self.must_not_move(old, new):
                raise CannotBe(old)
        offs = self.all_off(new_list)
        return [sum(offs), max(offs, default=0)]

    def has_each_rank_once(self, new_list):
        return sorted(new_list) == list(range(len(self.wins_more)))

    def must_not_move(self, old, new):
        """Tell whether the wrestler of the old rank falls having won more, or rises having lost more."""
        if self.wins_more[old] > 0:
            return new > old
        if self.wins_more[old] < 0:
            return new < old
        return False

    def earned(self, old):
        return PLACE * old - self.worth * self.wins_more[old]

    def all_off(self, new_list):
        """Give for each wrestler how far the new rank is from what's earned."""
        return [abs(PLACE * new - self.earned(old)) for old, new in enumerate(new_list)]

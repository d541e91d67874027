"""The wrestlers of one list, what they have earned, and which new lists can be and are nearest to it."""

MOST_WORTH = 30
MOST_BOUTS = 15
MOST_WRESTLERS = 6
PLACE = 10  # Worth, earned and off are told in tenths of a place.


class NotAllowed(Exception):
    """A number is too large, or a new list doesn't have each rank once."""


class NoRoom(Exception):
    """The list has as many wrestlers as it may have."""


class CannotBe(Exception):
    """In a new list somebody falls or rises who must not."""

    def __init__(self, who):
        self.who = who


class Tournament:
    """A list: what a win more is worth and, in the order of the old ranks, each one's wins more than losses."""

    def __init__(self):
        self.worth = 0
        self.wins_more = []

    def begins(self, worth):
        """Begin a list without wrestlers."""
        if worth > MOST_WORTH:
            raise NotAllowed()
        self.worth = worth
        self.wins_more = []

    def wrestler(self, won, lost):
        """Add a wrestler behind the others and give the number."""
        if won + lost > MOST_BOUTS:
            raise NotAllowed()
        if len(self.wins_more) == MOST_WRESTLERS:
            raise NoRoom()
        self.wins_more.append(won - lost)
        return len(self.wins_more) - 1

    def check(self, new_list):
        """Give how far all are off together by a list that can be, and how far the one who's off the most."""
        if not self.has_each_rank_once(new_list):
            raise NotAllowed()
        wrong = self.who_must_not_move(new_list)
        if wrong:
            raise CannotBe(wrong[0])
        return [self.off_together(new_list), self.off_the_most(new_list)]

    def best(self):
        """Give how far all are off together by the best list, how many are as good, then the earliest."""
        lists = self.lists_that_can_be()
        return nearest(lists, [self.off_together(one) for one in lists])

    def fair(self):
        """Give how far the one off the most is by the fairest list, how many are as good, then the earliest."""
        lists = self.lists_that_can_be()
        return nearest(lists, [self.off_the_most(one) for one in lists])

    def plain(self):
        """Give how far all are off together by what's earned alone, 1 or 0 for whether that list can be, then it."""
        new_list = self.by_earned_alone()
        can_be = 0 if self.who_must_not_move(new_list) else 1
        return [self.off_together(new_list), can_be] + new_list

    def lists_that_can_be(self):
        """Give every new list that can be, the earlier ahead of the later."""
        lists = [[]]
        for old in range(len(self.wins_more)):
            lists = self.lists_with_one_more(lists, old)
        return lists

    def lists_with_one_more(self, lists, old):
        """Give each list with each rank behind it that is free and that the wrestler of the old rank may have."""
        longer = []
        for begun in lists:
            for new in range(len(self.wins_more)):
                if new not in begun and not self.must_not_move(old, new):
                    longer.append(begun + [new])
        return longer

    def by_earned_alone(self):
        """Give the new list in which who has earned less is higher, whether it can be or not."""
        # Of as much in the order of the old ranks: sorted leaves those as they stood.
        highest_first = sorted(range(len(self.wins_more)), key=self.earned)
        return [highest_first.index(old) for old in range(len(self.wins_more))]

    def has_each_rank_once(self, new_list):
        return sorted(new_list) == list(range(len(self.wins_more)))

    def who_must_not_move(self, new_list):
        """Give the wrestlers, the first ahead, who fall or rise in the new list and must not."""
        return [old for old, new in enumerate(new_list) if self.must_not_move(old, new)]

    def must_not_move(self, old, new):
        """Tell whether the wrestler of the old rank falls having won more, or rises having lost more."""
        if self.wins_more[old] > 0:
            return new > old
        if self.wins_more[old] < 0:
            return new < old
        return False

    def earned(self, old):
        return PLACE * old - self.worth * self.wins_more[old]

    def all_off(self, new_list):
        """Give for each wrestler how far the new rank is from what's earned."""
        return [abs(PLACE * new - self.earned(old)) for old, new in enumerate(new_list)]

    def off_together(self, new_list):
        return sum(self.all_off(new_list))

    def off_the_most(self, new_list):
        return max(self.all_off(new_list), default=0)


def nearest(lists, how_far):
    """Give the least of how far the lists are off, how many are as near, then the numbers of the first of these."""
    least = min(how_far)
    return [least, how_far.count(least)] + lists[how_far.index(least)]

import itertools
import random
import unittest

from asking import ask, begins, best, check, fair, last, listed, plain, wrestler
from newranks.ranks import answers

OLD_LIST = [0, 1, 2, 3, 4, 5]


def earned(worth, bouts):
    return [10 * old - worth * won + worth * lost for old, (won, lost) in enumerate(bouts)]


def offs(worth, bouts, new_list):
    return [abs(10 * new - own) for new, own in zip(new_list, earned(worth, bouts))]


def can_be(bouts, new_list):
    for old, (won, lost) in enumerate(bouts):
        if (won > lost and new_list[old] > old) or (won < lost and new_list[old] < old):
            return False
    return True


def nearest_plainly(how_far, worth, bouts):
    """Give what best (how_far: sum) or fair (how_far: max) should answer, from all lists gone through."""
    every = [new_list for new_list in itertools.permutations(range(len(bouts))) if can_be(bouts, new_list)]
    told = [how_far(offs(worth, bouts, new_list) or [0]) for new_list in every]
    as_good = [new_list for new_list, far in zip(every, told) if far == min(told)]
    return [min(told), len(as_good), *min(as_good)]


def plain_plainly(worth, bouts):
    """Give what plain should answer: a rank is how many have earned less, or as much from a higher old rank."""
    order = [(own, old) for old, own in enumerate(earned(worth, bouts))]
    new_list = [len([other for other in order if other < one]) for one in order]
    return [sum(offs(worth, bouts, new_list)), int(can_be(bouts, new_list)), *new_list]


def drawn_lists():
    """Give many lists: what a win more is worth, then won and lost of 0 to 6 wrestlers."""
    drawn = random.Random(6)
    for count in range(7):
        # With few bouts there are many wrestlers who have earned as much, and many lists as good.
        for most_bouts in (1, 3, 7, 15):
            for worth in (0, 1, 10, 30, drawn.randint(2, 9), drawn.randint(11, 29)):
                bouts = []
                for played in [drawn.randint(0, most_bouts) for each in range(count)]:
                    won = drawn.randint(0, played)
                    bouts.append((won, played - won))
                yield worth, bouts


class WithoutWrestlersTest(unittest.TestCase):
    def test_at_the_beginning(self):
        self.assertEqual(answers([3, 0, 0, 4, 0, 0, 5, 0, 0]), [2, 0, 1, 2, 0, 1, 2, 0, 1])

    def test_behind_a_begins(self):
        self.assertEqual(ask(begins(30), best, fair, plain), [[0]] + [[0, 1]] * 3)

    def test_behind_a_begins_that_cleared_the_wrestlers(self):
        for bouts in ([(1, 0)], [(0, 15)] * 6, [(3, 3)] * 6):
            with self.subTest(bouts=bouts):
                told = ask(*listed(30, bouts), best, begins(30), best, fair, plain)
                self.assertEqual(told[-4:], [[0]] + [[0, 1]] * 3)


class BestTest(unittest.TestCase):
    def test_one(self):
        self.assertEqual(last(wrestler(1, 1), best), [0, 1, 0])
        self.assertEqual(last(begins(30), wrestler(15, 0), best), [450, 1, 0])
        self.assertEqual(last(begins(30), wrestler(0, 15), best), [450, 1, 0])

    def test_one_list_is_the_best(self):
        # Earned: 10, 0.
        self.assertEqual(last(*listed(10, [(7, 8), (8, 7)]), best), [0, 1, 1, 0])

    def test_the_earliest_of_several_needs_not_be_the_old_list(self):
        # Earned: 10, 10, 0. As good are 1, 2, 0 and 2, 1, 0; by the old list they are off by 30.
        self.assertEqual(last(*listed(10, [(0, 1), (1, 1), (2, 0)]), best), [10, 2, 1, 2, 0])

    def test_the_earliest_of_several_is_the_old_list(self):
        # Earned: 90, 10, 50. As good are 0, 1, 2 and 1, 0, 2.
        self.assertEqual(last(*listed(30, [(0, 3), (4, 4), (1, 2)]), best), [120, 2, 0, 1, 2])

    def test_a_list_that_cannot_be_does_not_count_for_how_many(self):
        # Earned: 0, 100, 50. As near is 0, 2, 1, by which 2 rises.
        self.assertEqual(last(*listed(30, [(0, 0), (0, 3), (0, 1)]), best), [120, 1, 0, 1, 2])
        # Earned: -10, -20. As near is 1, 0, by which 0 falls.
        self.assertEqual(last(*listed(10, [(1, 0), (3, 0)]), best), [40, 1, 0, 1])

    def test_a_list_that_cannot_be_is_not_the_earliest(self):
        # Earned: 6, 4, 2. As near as 2, 1, 0 is the earlier 1, 2, 0, by which 1 falls.
        self.assertEqual(last(*listed(6, [(0, 1), (1, 0), (3, 0)]), best), [22, 1, 2, 1, 0])

    def test_six_of_whom_each_won_as_many_as_lost(self):
        for worth in (0, 1, 10, 30):
            with self.subTest(worth=worth):
                self.assertEqual(last(*listed(worth, [(1, 1)] * 6), best), [0, 1, *OLD_LIST])

    def test_six_who_all_won_more(self):
        for worth in (0, 1, 10, 30):
            with self.subTest(worth=worth):
                self.assertEqual(last(*listed(worth, [(15, 0)] * 6), best), [90 * worth, 1, *OLD_LIST])
        # Here 5, 4, 3, 2, 1, 0 is by what's earned alone.
        rising = [(1, 0), (3, 0), (5, 0), (7, 0), (9, 0), (11, 0)]
        self.assertEqual(last(*listed(30, rising), best), [1080, 1, *OLD_LIST])

    def test_six_who_all_lost_more(self):
        for worth in (0, 1, 10, 30):
            with self.subTest(worth=worth):
                self.assertEqual(last(*listed(worth, [(0, 15)] * 6), best), [90 * worth, 1, *OLD_LIST])
        falling = [(0, 11), (0, 9), (0, 7), (0, 5), (0, 3), (0, 1)]
        self.assertEqual(last(*listed(30, falling), best), [1080, 1, *OLD_LIST])

    def test_six_mixed_ones(self):
        # Where a win more is worth 30, earned: 450, -440, 440, -420, 430, -400.
        mixed = [(0, 15), (15, 0), (0, 14), (15, 0), (0, 13), (15, 0)]
        self.assertEqual(last(*listed(0, mixed), best), [0, 1, *OLD_LIST])
        # As good are all by which who lost more has 3, 4, 5 (4 lists can be) and who won more 0, 1, 2 (4 again).
        self.assertEqual(last(*listed(30, mixed), best), [2580 - 120 + 30, 16, 3, 0, 4, 1, 5, 2])
        for worth in (1, 10):
            with self.subTest(worth=worth):
                self.assertEqual(last(*listed(worth, mixed), best), nearest_plainly(sum, worth, mixed))

    def test_as_the_old_list_where_a_win_more_is_worth_nothing(self):
        mixed = [(0, 15), (15, 0), (3, 3), (1, 0), (0, 1), (2, 1)]
        self.assertEqual(last(*listed(0, mixed), best), [0, 1, *OLD_LIST])


class FairTest(unittest.TestCase):
    def test_one(self):
        self.assertEqual(last(wrestler(1, 1), fair), [0, 1, 0])
        self.assertEqual(last(begins(30), wrestler(15, 0), fair), [450, 1, 0])
        self.assertEqual(last(begins(30), wrestler(0, 15), fair), [450, 1, 0])

    def test_the_one_who_is_off_the_most_counts(self):
        # Earned: 16, -10.
        self.assertEqual(last(*listed(4, [(0, 4), (5, 0)]), fair), [10, 1, 1, 0])
        # Earned: 90, 10, 50. Together as near is the old list, but by it 0 is off by 90.
        self.assertEqual(last(*listed(30, [(0, 3), (4, 4), (1, 2)]), fair), [80, 1, 1, 0, 2])

    def test_the_fairest_need_not_be_the_best(self):
        # Earned: 6, 4, 2. Off by 2, 0, 1: 14, 4, 8; by 2, 1, 0, the only best one: 14, 6, 2.
        three = listed(6, [(0, 1), (1, 0), (3, 0)])
        self.assertEqual(ask(*three, best, fair)[-2:], [[22, 1, 2, 1, 0], [14, 2, 2, 0, 1]])

    def test_more_lists_are_as_fair_than_are_best_and_the_earliest_is_another(self):
        # Earned: 10, 10, 0. By 10 at most are off: 0, 2, 1 and 1, 2, 0 and 2, 0, 1 and 2, 1, 0.
        three = listed(10, [(0, 1), (1, 1), (2, 0)])
        self.assertEqual(ask(*three, best, fair)[-2:], [[10, 2, 1, 2, 0], [10, 4, 0, 2, 1]])

    def test_a_list_that_cannot_be_does_not_count_for_how_far(self):
        # Earned: 0, 100, 50. By 0, 2, 1 nobody is off by more than 80, but 2 rises.
        self.assertEqual(last(*listed(30, [(0, 0), (0, 3), (0, 1)]), fair), [90, 1, 0, 1, 2])

    def test_six_of_whom_each_won_as_many_as_lost(self):
        for worth in (0, 1, 10, 30):
            with self.subTest(worth=worth):
                self.assertEqual(last(*listed(worth, [(1, 1)] * 6), fair), [0, 1, *OLD_LIST])

    def test_six_who_all_won_more_or_all_lost_more(self):
        for worth in (0, 1, 10, 30):
            with self.subTest(worth=worth):
                self.assertEqual(last(*listed(worth, [(15, 0)] * 6), fair), [15 * worth, 1, *OLD_LIST])
                self.assertEqual(last(*listed(worth, [(0, 15)] * 6), fair), [15 * worth, 1, *OLD_LIST])

    def test_six_where_only_one_is_far_off(self):
        # Earned: 440 by the last, 0 to 40 by the others. As fair are all lists by which the last stays: 120.
        self.assertEqual(last(*listed(30, [(1, 1)] * 5 + [(1, 14)]), fair), [390, 120, *OLD_LIST])
        # Earned: -450 by the first, who has to stay.
        self.assertEqual(last(*listed(30, [(15, 0)] + [(1, 1)] * 5), fair), [450, 120, *OLD_LIST])


class AgainstAllListsTest(unittest.TestCase):
    def test_drawn_lists(self):
        for worth, bouts in drawn_lists():
            with self.subTest(worth=worth, bouts=bouts):
                self.assertEqual(ask(*listed(worth, bouts), best, fair, plain)[-3:],
                                 [nearest_plainly(sum, worth, bouts), nearest_plainly(max, worth, bouts),
                                  plain_plainly(worth, bouts)])


class PlainTest(unittest.TestCase):
    def test_a_list_that_can_be(self):
        # Earned: 10, 10, 0. Read the other way (who stands at each rank), 1, 2, 0 would be 2, 0, 1.
        self.assertEqual(last(*listed(10, [(0, 1), (1, 1), (2, 0)]), plain), [10, 1, 1, 2, 0])
        # Earned: 6, 4, 2.
        self.assertEqual(last(*listed(6, [(0, 1), (1, 0), (3, 0)]), plain), [22, 1, 2, 1, 0])

    def test_a_list_by_which_one_who_won_more_falls(self):
        # Earned: 0, 4, 2.
        self.assertEqual(last(*listed(6, [(1, 1), (1, 0), (3, 0)]), plain), [24, 0, 0, 2, 1])

    def test_a_list_by_which_one_who_lost_more_rises(self):
        # Earned: 0, 100, 50.
        self.assertEqual(last(*listed(30, [(0, 0), (0, 3), (0, 1)]), plain), [120, 0, 0, 2, 1])

    def test_who_has_earned_as_much_stays_in_the_order_of_the_old_ranks(self):
        # Earned: 10, 10, 10.
        self.assertEqual(last(*listed(10, [(0, 1), (0, 0), (1, 0)]), plain), [20, 1, 0, 1, 2])
        # Earned: 20, 10, 10.
        self.assertEqual(last(*listed(10, [(0, 2), (0, 0), (1, 0)]), plain), [10, 1, 2, 0, 1])
        # Earned: 10, 10, 0, 0, 50, 50.
        six = [(0, 1), (0, 0), (2, 0), (3, 0), (0, 1), (0, 0)]
        self.assertEqual(last(*listed(10, six), plain), [10 + 20 + 0 + 10 + 10 + 0, 1, 2, 3, 0, 1, 4, 5])

    def test_earned_below_0(self):
        # Earned: -10, -20.
        self.assertEqual(last(*listed(10, [(1, 0), (3, 0)]), plain), [40, 0, 1, 0])
        # Earned: 0, -440.
        self.assertEqual(last(*listed(30, [(0, 0), (15, 0)]), plain), [450, 1, 1, 0])

    def test_earned_far_beyond_the_last_rank(self):
        # Earned: 450, 10.
        self.assertEqual(last(*listed(30, [(0, 15), (0, 0)]), plain), [450, 1, 1, 0])

    def test_where_a_win_more_is_worth_nothing(self):
        six = [(0, 15), (15, 0), (0, 1), (1, 0), (0, 0), (8, 7)]
        self.assertEqual(last(*listed(0, six), plain), [0, 1, *OLD_LIST])


class NothingIsChangedTest(unittest.TestCase):
    def test_asked_twice(self):
        for worth, bouts in drawn_lists():
            with self.subTest(worth=worth, bouts=bouts):
                told = ask(*listed(worth, bouts), best, fair, plain, best, fair, plain)[-6:]
                self.assertEqual(told[3:], told[:3])

    def test_a_check_of_what_is_told(self):
        for worth, bouts in drawn_lists():
            with self.subTest(worth=worth, bouts=bouts):
                as_best, as_fair, as_plain = ask(*listed(worth, bouts), best, fair, plain)[-3:]
                told = ask(*listed(worth, bouts), best, check(*as_best[2:]), fair, check(*as_fair[2:]),
                           plain, check(*as_plain[2:]))
                self.assertEqual(told[-5][0], as_best[0])
                self.assertEqual(told[-3][1], as_fair[0])
                self.assertEqual(told[-1][0], as_plain[0] if as_plain[1] else -6)

    def test_between_other_calls(self):
        # Earned: 10, 10, 0.
        told = ask(*listed(10, [(0, 1), (1, 1), (2, 0)]), plain, check(0, 1, 2), best, check(2, 1), fair, begins(31),
                   plain, wrestler(9, 9), best, wrestler(1, 1), check(1, 2, 0, 3), check(0, 1, 2))
        self.assertEqual(told[4:], [[10, 1, 1, 2, 0], [30, 20], [10, 2, 1, 2, 0], [-1], [10, 4, 0, 2, 1], [-1],
                                    [10, 1, 1, 2, 0], [-1], [10, 2, 1, 2, 0], [3], [10, 10], [-1]])

    def test_six_are_still_six(self):
        told = ask(*listed(7, [(2, 1)] * 6), best, wrestler(1, 1), fair, wrestler(1, 1), plain, wrestler(1, 1))
        self.assertEqual(told[-5::2], [[-5]] * 3)


if __name__ == "__main__":
    unittest.main()

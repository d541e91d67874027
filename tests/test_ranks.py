import contextlib
import io
import itertools
import time
import unittest

from asking import LARGEST, ask, begins, best, check, fair, last, line, plain, wrestler
from newranks.ranks import answers


class BeginsTest(unittest.TestCase):
    def test_worth_that_is_allowed(self):
        for worth in (0, 1, 29, 30):
            with self.subTest(worth=worth):
                self.assertEqual(ask(begins(worth)), [[0]])

    def test_worth_above_30_is_refused(self):
        for worth in (31, 32, 256, LARGEST):
            with self.subTest(worth=worth):
                self.assertEqual(ask(begins(worth)), [[-1]])

    def test_worth_counts_for_what_is_earned(self):
        for worth in (0, 1, 29, 30):
            with self.subTest(worth=worth):
                self.assertEqual(last(begins(worth), wrestler(2, 0), check(0)), [2 * worth, 2 * worth])

    def test_a_refusal_leaves_wrestlers_and_worth(self):
        told = ask(begins(7), wrestler(3, 1), begins(31), check(0), wrestler(1, 1), check(0, 1))
        self.assertEqual(told, [[0], [0], [-1], [14, 14], [1], [14, 14]])

    def test_a_refusal_at_the_beginning_leaves_nothing_worth(self):
        self.assertEqual(ask(begins(31), check(), wrestler(5, 0), check(0)), [[-1], [0, 0], [0], [0, 0]])

    def test_a_second_begins_clears_the_wrestlers(self):
        told = ask(begins(3), wrestler(1, 0), wrestler(1, 0), begins(3), check(0, 1), check(), wrestler(0, 0), check(0))
        self.assertEqual(told, [[0], [0], [1], [0], [-1], [0, 0], [0], [0, 0]])

    def test_a_second_begins_makes_room_for_six(self):
        told = ask(begins(3), *[wrestler(1, 0)] * 6, begins(3), *[wrestler(1, 0)] * 7)
        self.assertEqual(told[7:], [[0], [0], [1], [2], [3], [4], [5], [-5]])

    def test_a_second_begins_sets_the_worth_anew(self):
        self.assertEqual(last(begins(30), begins(4), wrestler(2, 1), check(0)), [4, 4])
        self.assertEqual(last(begins(30), begins(0), wrestler(2, 1), check(0)), [0, 0])

    def test_before_any_begins_nothing_is_worth_and_nobody_there(self):
        self.assertEqual(ask(check()), [[0, 0]])
        self.assertEqual(ask(check(0)), [[-1]])
        self.assertEqual(ask(wrestler(15, 0), wrestler(0, 15), check(0, 1)), [[0], [1], [0, 0]])


class WrestlerTest(unittest.TestCase):
    def test_numbers_in_order(self):
        calls = [wrestler(k, 5 - k) for k in range(6)]
        self.assertEqual(ask(*calls), [[0], [1], [2], [3], [4], [5]])
        self.assertEqual(ask(begins(30), *calls), [[0], [0], [1], [2], [3], [4], [5]])

    def test_up_to_15_bouts_together(self):
        for won in range(16):
            with self.subTest(won=won):
                self.assertEqual(ask(wrestler(won, 15 - won)), [[0]])
        self.assertEqual(ask(wrestler(0, 0)), [[0]])

    def test_more_than_15_bouts_together_are_refused(self):
        for won in range(17):
            with self.subTest(won=won):
                self.assertEqual(ask(wrestler(won, 16 - won)), [[-1]])

    def test_large_numbers_are_refused(self):
        for won, lost in ((LARGEST, 0), (0, LARGEST), (LARGEST, LARGEST), (LARGEST, 1), (1, LARGEST),
                          (LARGEST - 7, 8), (2147483648, 2147483648)):
            with self.subTest(won=won, lost=lost):
                self.assertEqual(ask(wrestler(won, lost)), [[-1]])

    def test_a_seventh_is_refused(self):
        six = [wrestler(1, 1)] * 6
        for won, lost in ((0, 0), (1, 1), (15, 0), (0, 15), (8, 7)):
            with self.subTest(won=won, lost=lost):
                self.assertEqual(last(*six, wrestler(won, lost)), [-5])

    def test_a_seventh_with_too_many_bouts_is_refused_for_these(self):
        six = [wrestler(1, 1)] * 6
        for won, lost in ((16, 0), (0, 16), (8, 8), (LARGEST, LARGEST)):
            with self.subTest(won=won, lost=lost):
                self.assertEqual(last(*six, wrestler(won, lost)), [-1])

    def test_a_refusal_for_the_bouts_changes_nothing(self):
        told = ask(begins(10), wrestler(1, 0), wrestler(9, 7), check(0), wrestler(0, 1), check(0, 1))
        self.assertEqual(told, [[0], [0], [-1], [10, 10], [1], [20, 10]])

    def test_a_refusal_of_a_seventh_changes_nothing(self):
        told = ask(begins(2), *[wrestler(1, 0)] * 6, wrestler(9, 0), wrestler(16, 0), check(0, 1, 2, 3, 4, 5))
        self.assertEqual(told[-3:], [[-5], [-1], [12, 2]])


class NotEachRankOnceTest(unittest.TestCase):
    def refused(self, count, *new_list):
        told = ask(begins(5), *[wrestler(1, 1)] * count, check(*new_list))
        self.assertEqual(told[-1], [-1], (count, new_list))

    def test_too_short(self):
        self.refused(1)
        self.refused(3, 0, 1)
        self.refused(3, 2, 1)
        self.refused(6, 0, 1, 2, 3, 4)
        self.refused(6)

    def test_too_long(self):
        self.refused(0, 0)
        self.refused(3, 0, 1, 2, 3)
        self.refused(6, 0, 1, 2, 3, 4, 5, 6)
        self.refused(6, 0, 1, 2, 3, 4, 5, 6, 7)
        self.refused(6, 0, 1, 2, 3, 4, 5, 5)
        self.refused(2, 0, 1, 0, 1, 0, 1, 0, 1)
        self.refused(0, 0, 1, 2, 3, 4, 5, 6, 7)

    def test_a_rank_twice(self):
        self.refused(2, 0, 0)
        self.refused(2, 1, 1)
        self.refused(3, 0, 2, 2)
        self.refused(6, 0, 1, 2, 3, 4, 0)

    def test_no_rank(self):
        self.refused(1, 1)
        self.refused(2, 0, 2)
        self.refused(3, 1, 2, 3)
        self.refused(6, 0, 1, 2, 3, 4, 6)
        self.refused(6, LARGEST, 1, 2, 3, 4, 5)
        self.refused(6, 0, 1, 2, 3, 4, LARGEST)
        self.refused(8 - 2, *[LARGEST] * 8)

    def test_told_ahead_of_one_who_falls_or_rises(self):
        self.assertEqual(last(wrestler(1, 0), wrestler(0, 1), check(1, 1)), [-1])
        self.assertEqual(last(wrestler(1, 0), wrestler(0, 1), check(1, 0, 2)), [-1])
        self.assertEqual(last(wrestler(1, 0), check(1)), [-1])


class FallsOrRisesTest(unittest.TestCase):
    def test_one_who_won_more_falls(self):
        self.assertEqual(last(wrestler(8, 7), wrestler(8, 7), check(1, 0)), [-6, 0])
        self.assertEqual(last(wrestler(1, 1), wrestler(1, 0), wrestler(1, 1), check(0, 2, 1)), [-6, 1])

    def test_one_who_lost_more_rises(self):
        self.assertEqual(last(wrestler(7, 8), wrestler(7, 8), check(1, 0)), [-6, 1])
        self.assertEqual(last(wrestler(1, 1), wrestler(1, 1), wrestler(0, 1), check(2, 1, 0)), [-6, 2])

    def test_the_first_of_several(self):
        self.assertEqual(last(wrestler(15, 0), wrestler(0, 15), check(1, 0)), [-6, 0])
        several = [wrestler(7, 8), wrestler(8, 7), wrestler(8, 7), wrestler(7, 8), wrestler(7, 8), wrestler(8, 7)]
        self.assertEqual(last(*several, check(5, 4, 3, 2, 1, 0)), [-6, 1])
        self.assertEqual(last(*several, check(5, 1, 3, 2, 4, 0)), [-6, 2])
        self.assertEqual(last(*several, check(5, 1, 2, 0, 3, 4)), [-6, 3])
        self.assertEqual(last(*several, check(0, 1, 2, 5, 3, 4)), [-6, 4])

    def test_also_where_a_win_more_is_worth_nothing(self):
        self.assertEqual(last(begins(0), wrestler(1, 0), wrestler(0, 0), check(1, 0)), [-6, 0])
        self.assertEqual(last(begins(0), wrestler(0, 0), wrestler(0, 1), check(1, 0)), [-6, 1])

    def test_who_won_more_may_rise_or_stay(self):
        self.assertEqual(last(wrestler(0, 1), wrestler(1, 0), check(1, 0)), [20, 10])
        self.assertEqual(last(wrestler(0, 1), wrestler(1, 0), check(0, 1)), [0, 0])

    def test_who_won_as_many_as_lost_may_do_either(self):
        even = [begins(30), wrestler(0, 0), wrestler(7, 7), wrestler(3, 3)]
        self.assertEqual(last(*even, check(0, 1, 2)), [0, 0])
        self.assertEqual(last(*even, check(2, 1, 0)), [40, 20])
        self.assertEqual(last(*even, check(1, 2, 0)), [40, 20])
        self.assertEqual(last(*even, check(2, 0, 1)), [40, 20])

    def test_a_refusal_changes_nothing(self):
        told = ask(begins(3), wrestler(1, 0), wrestler(0, 1), check(1, 0), check(0), check(0, 1), wrestler(1, 1))
        self.assertEqual(told[3:], [[-6, 0], [-1], [6, 3], [2]])


class HowFarOffTest(unittest.TestCase):
    def test_without_wrestlers(self):
        self.assertEqual(last(begins(30), check()), [0, 0])

    def test_together_and_the_one_who_is_off_the_most(self):
        # Earned: 6, 4, 20; off by 1, 0, 2: 4, 4, 0.
        three = [begins(6), wrestler(0, 1), wrestler(3, 2), wrestler(4, 4)]
        self.assertEqual(last(*three, check(1, 0, 2)), [8, 4])
        # Off by 0, 1, 2: 6, 6, 0.
        self.assertEqual(last(*three, check(0, 1, 2)), [12, 6])
        # Off by 2, 0, 1: 14, 4, 10.
        self.assertEqual(last(*three, check(2, 0, 1)), [28, 14])

    def test_the_one_off_the_most_may_stand_anywhere(self):
        self.assertEqual(last(begins(1), wrestler(9, 0), wrestler(2, 0), wrestler(0, 1), check(0, 1, 2)), [12, 9])
        self.assertEqual(last(begins(1), wrestler(2, 0), wrestler(9, 0), wrestler(0, 1), check(0, 1, 2)), [12, 9])
        self.assertEqual(last(begins(1), wrestler(2, 0), wrestler(1, 0), wrestler(0, 9), check(0, 1, 2)), [12, 9])

    def test_earned_below_0(self):
        self.assertEqual(last(begins(30), wrestler(15, 0), check(0)), [450, 450])
        # Earned: 10, -10.
        self.assertEqual(last(begins(10), wrestler(0, 1), wrestler(2, 0), check(1, 0)), [10, 10])
        self.assertEqual(last(begins(10), wrestler(0, 1), wrestler(2, 0), check(0, 1)), [30, 20])

    def test_earned_far_beyond_the_last_rank(self):
        self.assertEqual(last(begins(30), wrestler(0, 15), check(0)), [450, 450])
        # Earned: 450, -440.
        self.assertEqual(last(begins(30), wrestler(0, 15), wrestler(15, 0), check(1, 0)), [880, 440])

    def test_six_as_far_off_as_can_be(self):
        self.assertEqual(last(begins(30), *[wrestler(15, 0)] * 6, check(0, 1, 2, 3, 4, 5)), [2700, 450])
        self.assertEqual(last(begins(30), *[wrestler(0, 15)] * 6, check(0, 1, 2, 3, 4, 5)), [2700, 450])

    def test_the_new_rank_stands_in_the_order_of_the_old_ranks(self):
        # Read the other way (who stands at each rank), 1, 2, 0 would be 2, 0, 1.
        told = last(begins(5), wrestler(0, 2), wrestler(0, 2), wrestler(4, 0), check(1, 2, 0))
        self.assertEqual(told, [0, 0])

    def test_every_new_list_of_six(self):
        six = ((2, 5), (4, 4), (9, 0), (0, 1), (8, 7), (0, 0))
        lists = list(itertools.permutations(range(6)))
        for at in range(0, len(lists), 50):
            some = lists[at:at + 50]
            told = ask(begins(7), *[wrestler(*one) for one in six], *[check(*one) for one in some])
            self.assertEqual(told[7:], [self.told_plainly(7, six, one) for one in some])

    def told_plainly(self, worth, bouts, new_list):
        offs = []
        for old, (won, lost) in enumerate(bouts):
            if (won > lost and new_list[old] > old) or (won < lost and new_list[old] < old):
                return [-6, old]
            earned = 10 * old - worth * won + worth * lost
            offs.append(max(10 * new_list[old] - earned, earned - 10 * new_list[old]))
        return [sum(offs), max(offs)]


class Untouched(list):
    """A list that fails at once when it is changed, be it for a while only."""


def refuse_change(self, *given, **named):
    raise AssertionError("what is handed in is changed")


for name in ("append", "clear", "extend", "insert", "pop", "remove", "reverse", "sort",
             "__setitem__", "__delitem__", "__iadd__", "__imul__"):
    setattr(Untouched, name, refuse_change)


class InterfaceTest(unittest.TestCase):
    mixed = line(begins(10), wrestler(7, 8), wrestler(8, 7), check(1, 0), best, check(0, 1), check(0, 0), fair,
                 check(1, 0, 2), plain, wrestler(8, 8), begins(31), best, begins(0), check(), plain, fair,
                 wrestler(1, 0), wrestler(1, 0), check(1, 0), plain)
    mixed_told = [1, 0, 1, 0, 1, 1, 2, 0, 0, 4, 0, 1, 1, 0, 2, 20, 10, 1, -1, 4, 0, 1, 1, 0,
                  1, -1, 4, 0, 1, 1, 0, 1, -1, 1, -1, 4, 0, 1, 1, 0, 1, 0, 2, 0, 0, 2, 0, 1, 2, 0, 1,
                  1, 0, 1, 1, 2, -6, 0, 4, 0, 1, 0, 1]

    def test_one_call(self):
        self.assertEqual(answers([0, 1, 30, 0]), [1, 0])
        self.assertEqual(answers([1, 2, 8, 7, 0]), [1, 0])
        self.assertEqual(answers([2, 0, 0]), [2, 0, 0])
        self.assertEqual(answers([2, 3, 1, 0, 2, 0]), [1, -1])
        self.assertEqual(answers([3, 0, 0]), [2, 0, 1])
        self.assertEqual(answers([4, 0, 0]), [2, 0, 1])
        self.assertEqual(answers([5, 0, 0]), [2, 0, 1])

    def test_several_calls_in_one_list(self):
        self.assertEqual(answers(self.mixed), self.mixed_told)

    def test_sixty_calls(self):
        calls = line(begins(1), wrestler(1, 0), *[check(0, 1, 2, 3, 4, 5, 6, LARGEST)] * 57, check(0))
        self.assertEqual(answers(calls), [1, 0, 1, 0] + [1, -1] * 57 + [2, 1, 1])

    def test_sixty_calls_with_four_of_best_and_fair_without_a_noticeable_wait(self):
        # Who won as many as lost may have any rank: so there are the most lists to go through.
        calls = line(begins(30), *[wrestler(1, 1)] * 6, best, fair, *[plain] * 25, *[check(5, 4, 3, 2, 1, 0)] * 24,
                     best, fair)
        nearest = [8, 0, 1, 0, 1, 2, 3, 4, 5]
        told = [1, 0] + line(*[[1, number] for number in range(6)]) + nearest * 27 + [2, 180, 50] * 24 + nearest * 2
        began = time.process_time()
        self.assertEqual(answers(calls), told)
        self.assertLess(time.process_time() - began, 1)

    def test_what_is_handed_in_stays(self):
        calls = list(self.mixed)
        answers(calls)
        self.assertEqual(calls, self.mixed)

    def test_what_is_handed_in_is_not_changed_for_a_while(self):
        self.assertEqual(answers(Untouched(self.mixed)), self.mixed_told)

    def test_what_is_given_back_is_a_list_of_its_own(self):
        told = answers(self.mixed)
        self.assertIs(type(told), list)
        told.clear()
        self.assertEqual(answers(self.mixed), self.mixed_told)

    def test_numbers_are_never_true_or_false(self):
        for number in answers(self.mixed):
            self.assertIs(type(number), int)

    def test_the_same_again(self):
        self.assertEqual(answers(self.mixed), answers(self.mixed))

    def test_nothing_is_kept_to_the_next_time(self):
        answers(line(begins(30), wrestler(15, 0), wrestler(15, 0)))
        self.assertEqual(ask(check(), wrestler(15, 0), check(0)), [[0, 0], [0], [0, 0]])
        answers(line(begins(30), wrestler(15, 0), wrestler(15, 0), best, fair, plain))
        self.assertEqual(ask(best, fair, plain), [[0, 1]] * 3)

    def test_nothing_is_printed(self):
        out = io.StringIO()
        with contextlib.redirect_stdout(out), contextlib.redirect_stderr(out):
            answers(self.mixed)
        self.assertEqual(out.getvalue(), "")


if __name__ == "__main__":
    unittest.main()

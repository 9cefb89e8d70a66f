"""Point 6: plan, may, why."""

import unittest

from tests.helper import (GREATEST, ask, begins, changed_by, comes, goes, held, landings, lands, last, may, plan,
                          planned, room, shut, stand, why)

# Two that can only land at one and the same time.
NO_ORDER = [comes(first=5, last=5), comes(first=5, last=5)]


class Plan(unittest.TestCase):

    def test_of_nobody(self):
        self.assertEqual([planned(0)], ask([plan()]))
        self.assertEqual(planned(0), last([begins(3, 9, 9), stand(), plan()]))
        self.assertEqual(planned(0), last([comes(first=7), goes(0), plan()]))
        self.assertEqual(planned(0), last([comes(first=7), lands(), plan()]))
        self.assertEqual(planned(0), last([comes(first=7), lands(), goes(0), plan()]))

    def test_of_one(self):
        self.assertEqual(planned(7, (0, 7)), last([comes(first=7), plan()]))
        self.assertEqual(planned(0, (0, 0)), last([comes(first=0, last=0), plan()]))
        self.assertEqual(planned(1000, (0, 1000)), last([comes(first=1000), plan()]))

    def test_each_with_its_time_in_the_plans_order(self):
        calls = [room(0, 1, 5), room(1, 0, 2), comes(0), comes(1), comes(0, first=20), plan()]
        self.assertEqual(planned(20, (1, 0), (0, 2), (2, 20)), last(calls))

    def test_it_is_when_the_landings_are(self):
        calls = [begins(shift=3), room(0, 1, 9), room(2, 0, 4)] + [comes(k % 3, first=3 * k % 7) for k in range(6)]
        order = landings(calls, 6)
        self.assertEqual(planned(order[-1][1], *order), last(calls + [plan()]))
        for many in range(1, 6):
            told = last(calls + [lands()] * many + [plan()])
            self.assertEqual(planned(order[-1][1], *order[many:]), told)

    def test_who_landed_or_went_away_is_not_in_it(self):
        calls = [comes(), comes(), comes(), lands(), goes(2), plan()]
        self.assertEqual(planned(1, (1, 1)), last(calls))
        self.assertEqual(planned(1, (1, 1)), last(calls[:-1] + [goes(0), plan()]))

    def test_the_taxi_and_the_stay_are_not_in_it(self):
        self.assertEqual(planned(7, (0, 7)), last([begins(taxi=40), stand(), comes(first=7, stay=400), plan()]))

    def test_there_is_none(self):
        self.assertEqual([-6], last(NO_ORDER + [plan()]))
        self.assertEqual([-6], last([comes(first=5, last=5), lands(), comes(first=5, last=5), plan()]))
        self.assertEqual([-6], last([begins(shift=0), comes(first=6), comes(last=6), plan()]))
        self.assertEqual(planned(7, (0, 6), (1, 7)), last([begins(shift=0), comes(first=6), comes(last=7), plan()]))

    def test_there_may_be_one_again(self):
        self.assertEqual(planned(5, (1, 5)), last(NO_ORDER + [goes(0), plan()]))
        self.assertEqual(planned(0), last(NO_ORDER + [goes(0), goes(1), plan()]))

    def test_it_changes_nothing(self):
        calls = [begins(far=9), stand(), comes(), comes(first=5, last=5), comes(first=5, last=5), lands(), goes(1),
                 lands(), shut(0), lands()]
        self.assertEqual([], changed_by(calls, [plan()]))


class May(unittest.TestCase):

    def test_alone_from_its_first_time_on(self):
        opening = [comes(first=7, last=9)]
        for time, answer in ((0, 0), (6, 0), (7, 1), (8, 1), (9, 1), (10, 1), (1000, 1), (1001, 1), (GREATEST, 1)):
            self.assertEqual([answer], last(opening + [may(0, time)]))

    def test_the_least_time(self):
        self.assertEqual([1], last([comes(), may(0, 0)]))
        self.assertEqual([0], last([comes(first=1), may(0, 0)]))

    def test_by_an_order_that_is_not_the_plan(self):
        # By the plan it's 1, 0, which ends at 2; by the other order 0 is at 0 and 1 at 5.
        calls = [room(0, 1, 5), room(1, 0, 2), comes(0, first=0), comes(1, first=0)]
        self.assertEqual(planned(2, (1, 0), (0, 2)), last(calls + [plan()]))
        self.assertEqual([1], last(calls + [may(0, 0)]))
        # 10 ahead of it all, so that there is one minute before.
        calls = [room(0, 1, 5), room(1, 0, 2), comes(0, first=10), comes(1, first=10)]
        self.assertEqual(planned(12, (1, 10), (0, 12)), last(calls + [plan()]))
        self.assertEqual([[0], [1], [1], [1]], ask(calls + [may(0, time) for time in (9, 10, 11, 12)])[4:])
        self.assertEqual([[0], [1], [1]], ask(calls + [may(1, time) for time in (9, 10, 15)])[4:])

    def test_the_soonest_of_all_orders_where_one_cannot_be_first(self):
        # The last one has to be behind the first: the shift is 0.
        calls = [begins(shift=0), room(0, 0, 4), comes(first=10), comes(first=3)]
        self.assertEqual([[0], [1]], ask(calls + [may(1, 13), may(1, 14)])[4:])
        # With a shift of 1 it may be ahead.
        calls = [begins(shift=1)] + calls[1:]
        self.assertEqual([[0], [1]], ask(calls + [may(1, 2), may(1, 3)])[4:])

    def test_an_order_in_which_another_one_is_too_late_is_not_allowed(self):
        calls = [room(0, 0, 4), comes(first=10), comes(first=10, last=13)]
        self.assertEqual([[0], [1]], ask(calls + [may(0, 13), may(0, 14)])[3:])
        calls = [room(0, 0, 4), comes(first=10), comes(first=10, last=14)]
        self.assertEqual([[0], [1]], ask(calls + [may(0, 9), may(0, 10)])[3:])

    def test_who_landed_is_before_all(self):
        calls = [room(0, 0, 9), comes(first=4), lands(), comes()]
        self.assertEqual([[0], [1]], ask(calls + [may(1, 12), may(1, 13)])[4:])
        self.assertEqual([[0], [1]], ask(calls + [goes(0), may(1, 12), may(1, 13)])[5:])

    def test_no_order_is_allowed(self):
        for number in (0, 1):
            for time in (0, 5, 1000, GREATEST):
                self.assertEqual([0], last(NO_ORDER + [may(number, time)]))

    def test_none_of_that_number_has_come(self):
        for number in (0, 1, GREATEST):
            self.assertEqual([-2], last([may(number, 0)]))
        for number in (2, 3, 60, GREATEST):
            self.assertEqual([-2], last([comes(), comes(), may(number, GREATEST)]))
        self.assertEqual([-2], last([comes(), comes(stay=0), may(1, 0)]))

    def test_it_is_not_in_the_air(self):
        for calls in ([comes(), goes(0)], [comes(), lands()], [comes(), lands(), goes(0)]):
            for time in (0, GREATEST):
                self.assertEqual([-4], last(calls + [may(0, time)]))

    def test_the_refusals_stand_where_there_is_no_plan_too(self):
        calls = [comes(), lands()] + NO_ORDER
        self.assertEqual([[-4], [0], [0], [-2]], ask(calls + [may(number, 9) for number in range(4)])[4:])

    def test_it_changes_nothing(self):
        calls = [begins(far=9), stand(), comes(), comes(first=5, last=5), comes(first=5, last=5), lands(), goes(1),
                 lands(), shut(0), lands()]
        self.assertEqual([], changed_by(calls, [may(0, 0), may(1, 4), may(2, GREATEST), may(3, 0), may(GREATEST, 0)]))


class Why(unittest.TestCase):

    def test_at_its_first_time_behind_nobody(self):
        self.assertEqual(held(7), last([comes(first=7), why(0)]))
        self.assertEqual(held(0), last([comes(), why(0)]))
        self.assertEqual([held(0), held(20)], ask([comes(), comes(first=20), why(0), why(1)])[2:])

    def test_at_its_first_time_also_where_the_room_comes_to_just_that(self):
        calls = [room(0, 0, 4), comes(), comes(first=4)]
        self.assertEqual(held(4), last(calls + [why(1)]))
        self.assertEqual(held(4), last(calls + [lands(), why(1)]))
        self.assertEqual(held(4, 0), last([room(0, 0, 4), comes(), comes(first=3), why(1)]))

    def test_behind_one_that_landed(self):
        calls = [room(0, 0, 4), comes(first=3), lands(), comes(first=3)]
        self.assertEqual(held(7, 0), last(calls + [why(1)]))
        self.assertEqual(held(7, 0), last(calls + [goes(0), why(1)]))

    def test_behind_one_of_the_plan(self):
        calls = [begins(shift=0), room(0, 0, 4), comes(), comes(), comes()]
        self.assertEqual([held(0), held(4, 0), held(8, 1)], ask(calls + [why(0), why(1), why(2)])[5:])
        calls = [room(0, 1, 5), room(1, 0, 2), comes(0), comes(1)]
        self.assertEqual([held(2, 1), held(0)], ask(calls + [why(0), why(1)])[4:])

    def test_behind_one_far_ahead(self):
        calls = [begins(shift=0), room(0, 2, 9), comes(0), comes(1), comes(2)]
        self.assertEqual(held(9, 0), last(calls + [why(2)]))

    def test_the_room_is_that_for_its_own_class(self):
        # Both have landed; the first wants 9 ahead of class 2 alone, the second 3 ahead of class 3 alone.
        opening = [begins(shift=0), room(0, 2, 9), room(1, 3, 3), comes(0), comes(1), lands(), lands()]
        self.assertEqual(held(9, 0), last(opening + [comes(2), why(2)]))
        self.assertEqual(held(4, 1), last(opening + [comes(3), why(2)]))
        self.assertEqual(held(2, 1), last(opening + [comes(0), why(2)]))

    def test_the_first_of_several_in_the_plans_order(self):
        # 0 and 9 are 9, and 1 and 8 are.
        opening = [begins(shift=1), room(0, 2, 9), room(1, 2, 8)]
        self.assertEqual(held(9, 0), last(opening + [comes(0), comes(1), comes(2), why(2)]))
        # The one with the greater number lands first.
        calls = opening + [comes(1, first=1), comes(0, last=0), comes(2)]
        self.assertEqual(planned(9, (1, 0), (0, 1), (2, 9)), last(calls + [plan()]))
        self.assertEqual(held(9, 1), last(calls + [why(2)]))

    def test_the_first_of_several_that_landed(self):
        opening = [begins(shift=1), room(0, 2, 9), room(1, 2, 8)]
        calls = opening + [comes(0), comes(1), lands(), lands(), comes(2)]
        self.assertEqual(held(9, 0), last(calls + [why(2)]))
        calls = opening + [comes(1, first=1), comes(0, last=0), lands(), lands(), comes(2)]
        self.assertEqual(held(9, 1), last(calls + [why(2)]))
        self.assertEqual(held(9, 1), last(calls + [goes(1), why(2)]))

    def test_who_landed_goes_before_who_is_in_the_plan(self):
        opening = [begins(shift=1), room(0, 2, 9), room(1, 2, 8)]
        calls = opening + [comes(1, first=1), comes(0, last=0), lands(), comes(2)]
        self.assertEqual(planned(9, (0, 1), (2, 9)), last(calls + [plan()]))
        self.assertEqual(held(9, 1), last(calls + [why(2)]))

    def test_who_went_away_in_the_air_holds_nobody_up(self):
        calls = [begins(shift=1), room(0, 2, 9), room(1, 2, 8), comes(0), comes(1, first=1), comes(2), goes(0)]
        self.assertEqual(held(0), last(calls + [why(2)]))

    def test_none_of_that_number_has_come(self):
        for number in (0, 1, GREATEST):
            self.assertEqual([-2], last([why(number)]))
        for number in (2, 3, 60, GREATEST):
            self.assertEqual([-2], last([comes(), comes(), why(number)]))
            self.assertEqual([-2], last(NO_ORDER + [why(number)]))
        self.assertEqual([-2], last([comes(), comes(stay=0), why(1)]))

    def test_it_is_not_in_the_air(self):
        for calls in ([comes(), goes(0)], [comes(), lands()], [comes(), lands(), goes(0)]):
            self.assertEqual([-4], last(calls + [why(0)]))

    def test_there_is_no_plan(self):
        self.assertEqual([[-6], [-6]], ask(NO_ORDER + [why(0), why(1)])[2:])
        self.assertEqual(held(5), last(NO_ORDER + [goes(0), why(1)]))

    def test_which_refusal_comes_first(self):
        calls = [comes(), lands(), comes(), goes(1)] + NO_ORDER
        self.assertEqual([[-4], [-4], [-6], [-6], [-2]], ask(calls + [why(number) for number in range(5)])[6:])

    def test_it_changes_nothing(self):
        calls = [begins(far=9), stand(), comes(), comes(first=5, last=5), comes(first=5, last=5), lands(), goes(1),
                 lands(), shut(0), lands()]
        self.assertEqual([], changed_by(calls, [why(0), why(1), why(2), why(3), why(GREATEST)]))

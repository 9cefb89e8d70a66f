"""Point 4: lands; and the plan of the air, which decides who lands and when somebody is due."""

import unittest

from tests.helper import (ask, begins, came, comes, goes, landed, landings, lands, last, room, shut, stand)


class Lands(unittest.TestCase):

    def test_it_answers_who_when_and_where(self):
        calls = [begins(far=9), stand(2, 0), comes(first=7), comes(first=7), lands(), lands()]
        self.assertEqual([landed(0, 7, 0), landed(1, 8, 1)], ask(calls)[4:])

    def test_nobody_is_in_the_air(self):
        self.assertEqual([-4], last([lands()]))
        self.assertEqual([-4], last([comes(), lands(), lands()]))
        self.assertEqual([-4], last([comes(), goes(0), lands()]))
        self.assertEqual([-4], last([comes(), lands(), goes(0), lands()]))

    def test_there_is_no_plan(self):
        self.assertEqual([-6], last([comes(first=5, last=5), comes(first=5, last=5), lands()]))

    def test_a_refused_one_changes_nothing(self):
        calls = [comes(first=5, last=5), comes(first=5, last=5), goes(0), lands()]
        answered = ask(calls[:2] + [lands(), lands()] + calls[2:] + [lands()])
        self.assertEqual([-6], answered[2])
        self.assertEqual([-6], answered[3])
        self.assertEqual([-4], answered[6])
        self.assertEqual(ask(calls), answered[:2] + answered[4:6])

    def test_nobody_is_moved_by_a_landing(self):
        # All times stay as they were, so how they were set is good still.
        calls = [begins(3, 9, 5), room(0, 0, 7), stand(2, 1), stand(1, 2)] + [comes(size=k % 3) for k in range(6)]
        for answer in ask(calls + [lands()] * 6)[-6:]:
            self.assertEqual(0, answer[4])

    def test_it_lands_where_it_was_set(self):
        calls = [begins(3, 9, 5), room(0, 0, 7), stand(2, 1), stand(1, 2)] + [comes(size=k % 3) for k in range(6)]
        answered = ask(calls + [lands()] * 6)
        for answer in answered[-6:]:
            self.assertEqual(answered[4 + answer[0]][2], answer[3])


class TheRoom(unittest.TestCase):

    def test_each_lands_as_soon_as_it_may(self):
        self.assertEqual([(0, 0), (1, 1), (2, 2)], landings([comes()] * 3, 3))
        three = [comes(first=3), comes(first=8), comes(first=5)]
        self.assertEqual([(0, 3), (1, 8), (2, 9)], landings([begins(shift=0)] + three, 3))
        self.assertEqual([(0, 3), (2, 5), (1, 8)], landings([begins(shift=1)] + three, 3))

    def test_the_order_that_ends_soonest(self):
        rooms = [room(0, 1, 5), room(1, 0, 2)]
        self.assertEqual([(1, 0), (0, 2)], landings(rooms + [comes(0), comes(1)], 2))
        self.assertEqual([(0, 0), (1, 2)], landings(rooms + [comes(1), comes(0)], 2))

    def test_one_far_ahead_wants_its_room_too(self):
        calls = [begins(shift=0), room(0, 2, 9), comes(0), comes(1), comes(2)]
        self.assertEqual([(0, 0), (1, 1), (2, 9)], landings(calls, 3))

    def test_who_has_landed_wants_its_room_too(self):
        calls = [room(0, 2, 9), comes(0), comes(1), lands(), lands()]
        self.assertEqual([(2, 9)], landings(calls + [comes(2)], 1))
        self.assertEqual([(2, 9)], landings(calls + [goes(0), goes(1), comes(2)], 1))
        self.assertEqual([(2, 2)], landings(calls + [comes(3)], 1))

    def test_who_went_away_in_the_air_wants_none(self):
        self.assertEqual([(1, 0)], landings([room(0, 0, 9), comes(), comes(), goes(0)], 1))

    def test_the_last_time_is_taken(self):
        pair = [room(0, 0, 9), comes(first=0, last=0)]
        self.assertEqual([(0, 0), (1, 9)], landings(pair + [comes(last=9)], 2))
        self.assertEqual([-6], last(pair + [comes(last=8), lands()]))

    def test_a_last_time_may_change_the_order(self):
        self.assertEqual([(1, 0), (0, 1)], landings([comes(), comes(last=0)], 2))
        self.assertEqual([(0, 0), (1, 1)], landings([comes(), comes(last=1)], 2))


class TheShift(unittest.TestCase):

    # Only as the first one does the last one not hold the others up.
    def orders(self, many, shift):
        return landings([begins(shift=shift)] + [comes(first=10)] * (many - 1) + [comes(first=0)], many)

    def test_how_far_one_may_be_ahead(self):
        late_one = [[(k, 10 + k) for k in range(many)] for many in range(5)]
        early_one = [[(many - 1, 0)] + [(k, 10 + k) for k in range(many - 1)] for many in range(6)]
        self.assertEqual(late_one[2], self.orders(2, 0))
        self.assertEqual(early_one[2], self.orders(2, 1))
        self.assertEqual(late_one[3], self.orders(3, 1))
        self.assertEqual(early_one[3], self.orders(3, 2))
        self.assertEqual(late_one[4], self.orders(4, 2))
        self.assertEqual(early_one[4], self.orders(4, 3))

    def test_how_far_one_may_be_behind(self):
        for shift in range(4):
            ahead = [comes(first=k, last=k) for k in range(shift)]
            calls = [begins(shift=shift), comes(first=50)] + ahead
            self.assertEqual((1 if shift > 0 else 0), landings(calls, shift + 1)[0][0])
            self.assertEqual((0, 50), landings(calls, shift + 1)[-1])
            beyond = comes(first=shift, last=shift)
            self.assertEqual([-6], last(calls + [beyond, lands()]))

    def test_those_that_landed_count_for_place_and_rank(self):
        calls = [begins(shift=0)] + [comes()] * 6 + [lands()] * 4
        self.assertEqual([(4, 4), (5, 5)], landings(calls, 2))

    def test_who_landed_and_left_its_place_counts_still(self):
        # The first one has been passed once, by one that has landed and gone: nobody more may pass it.
        calls = [begins(shift=1), comes(first=500), comes(first=0), lands(), goes(1), comes(first=0)]
        self.assertEqual([(0, 500), (2, 501)], landings(calls, 2))

    def test_who_went_away_in_the_air_does_not_count(self):
        calls = [begins(shift=1), comes(first=500), comes(first=500), comes(first=0)]
        self.assertEqual([(0, 500), (1, 501), (2, 502)], landings(calls, 3))
        self.assertEqual([(2, 0), (1, 500)], landings(calls + [goes(0)], 2))


class WhichOrder(unittest.TestCase):

    def test_the_least_waiting_of_those_that_end_as_soon(self):
        # Both orders end at 20 with the last one; the one waits 5, the other 2.
        calls = [room(0, 1, 5), room(1, 0, 2), comes(0), comes(1), comes(0, first=20)]
        self.assertEqual([(1, 0), (0, 2), (2, 20)], landings(calls, 3))

    def test_the_end_goes_before_the_waiting(self):
        # 0, 2, 1 ends at 4 and waits 4; 0, 1, 2 ends at 5 and waits 3.
        calls = [room(1, 0, 4), comes(0), comes(1), comes(0, first=3)]
        self.assertEqual([(0, 0), (2, 3), (1, 4)], landings(calls, 3))

    def test_the_least_number_where_they_first_differ(self):
        self.assertEqual([(k, k) for k in range(6)], landings([begins(shift=3)] + [comes()] * 6, 6))

    def test_the_least_number_where_they_first_differ_further_on(self):
        calls = [begins(shift=3), comes(first=10), comes(first=10), comes(first=10), comes(first=0)]
        self.assertEqual([(3, 0), (0, 10), (1, 11), (2, 12)], landings(calls, 4))


class Due(unittest.TestCase):

    def setUp(self):
        self.opening = [begins(far=9), room(0, 0, 9), stand(2, 0), comes(first=0, last=0, stay=5)]

    def test_one_is_due_at_its_time_in_the_plan(self):
        self.assertEqual(came(1, 0), last(self.opening + [comes(first=0, last=9, stay=5)]))

    def test_without_a_plan_one_is_due_at_its_first_time(self):
        self.assertEqual(came(1, 1), last(self.opening + [comes(first=0, last=8, stay=5)]))
        self.assertEqual(came(1, 0), last(self.opening + [comes(first=5, last=8, stay=5)]))
        self.assertEqual(came(1, 1), last(self.opening + [comes(first=4, last=8, stay=5)]))

    def test_without_a_plan_the_others_are_due_at_their_first_times_too(self):
        # With the plan the second is due at 9; as soon as there is none it is due at 0, like the first.
        calls = self.opening + [comes(first=0, last=9, stay=5, many=2), comes(first=8, last=8, stay=1)]
        self.assertEqual([came(1, 0), came(2, 0, [0])], ask(calls)[4:])
        self.assertEqual([-6], last(calls + [lands()]))

    def test_there_may_be_a_plan_again(self):
        calls = self.opening + [comes(first=0, last=8, stay=5), lands(), goes(0), lands(), lands()]
        self.assertEqual([came(1, 1), [-6], [0, 0], landed(1, 0, 1), [-4]], ask(calls)[4:])

    def test_who_has_landed_is_there_from_its_landing_on_without_a_plan_too(self):
        # The second landed at 9, not at its first time, and stays so while the next two have no plan.
        calls = self.opening + [comes(first=0, last=9, stay=5), lands(), lands(), goes(0),
                                comes(first=20, last=20), comes(first=20, last=20), comes(first=4, last=4, stay=5)]
        self.assertEqual(came(4, 0), last(calls))
        self.assertEqual([-6], last(calls + [lands()]))


class ShutMornings(unittest.TestCase):

    def test_the_ground_does_not_change_the_air(self):
        air = [room(0, 1, 5), room(1, 0, 2), comes(0), comes(1), comes(0, first=20), comes(1, first=3)]
        plain = landings([begins(shift=3)] + air, 4)
        crowded = landings([begins(shift=3, far=7, taxi=9), stand(0, 1), stand(2, 3)] + air + [shut(0), shut(1)], 4)
        self.assertEqual(plain, crowded)

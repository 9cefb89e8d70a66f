"""Point 7: where, free; and what steps, moved and state answer."""

import unittest

from tests.helper import (GREATEST, ask, ban, begins, came, changed, changed_by, comes, found, free, goes, lands, last,
                          late, moved, moves, room, shut, stand, state, steps, stood, there, walked, where)

# Somebody comes, lands, is late, is moved, goes away and leaves its place; a call or two is refused.
BUSY = [begins(1, 9, 2), stand(2, 0), stand(1, 1), comes(many=5), lands(), comes(first=10, size=1), late(0, 40),
        comes(first=50, last=50), comes(first=50, last=50), lands(), goes(3), shut(0), lands(), goes(0), shut(0, 0)]


def at(time, many=1, size=0, stay=10, sort=0):
    """One that can land at that time alone."""
    return comes(sort, size, many, time, time, stay)


class Where(unittest.TestCase):

    def setUp(self):
        self.opening = [begins(far=9, taxi=3), room(0, 0, 5), stand(1, 0), comes(first=20, stay=10)]

    def test_in_the_air(self):
        self.assertEqual(found(0, 0, 23, 33), last(self.opening + [where(0)]))
        # It waits for the first one, and is too great for the stand.
        self.assertEqual(found(0, 1, 28, 68), last(self.opening + [comes(size=2, first=22, stay=40), where(1)]))

    def test_with_no_stand(self):
        self.assertEqual(found(0, 0, 7, 17), last([comes(first=7), where(0)]))

    def test_landed(self):
        self.assertEqual(found(1, 0, 23, 33), last(self.opening + [lands(), where(0)]))
        calls = self.opening + [comes(size=2, first=22, stay=40), lands(), lands()]
        self.assertEqual([found(1, 0, 23, 33), found(1, 1, 28, 68)], ask(calls + [where(0), where(1)])[7:])

    def test_gone(self):
        self.assertEqual([2], last(self.opening + [goes(0), where(0)]))
        self.assertEqual([2], last(self.opening + [lands(), goes(0), where(0)]))
        self.assertEqual([2], last(self.opening + [lands(), late(0, 50), goes(0), comes(), where(0)]))

    def test_told_to_go_later_and_sooner(self):
        for end in (24, 32, 34, 200, 1440):
            self.assertEqual(found(1, 0, 23, end), last(self.opening + [lands(), late(0, end), where(0)]))
        told = [lands(), late(0, 200), comes(), lands(), comes(), shut(0, 0), goes(1), goes(2)]
        self.assertEqual(found(1, 0, 23, 200), last(self.opening + told + [where(0)]))
        self.assertEqual(found(1, 0, 23, 33), last(self.opening + [lands(), late(0, 1441), late(0, 23), where(0)]))

    def test_moved(self):
        self.assertEqual(found(0, 1, 23, 33), last(self.opening + [shut(0), where(0)]))
        self.assertEqual(found(1, 1, 23, 33), last(self.opening + [lands(), shut(0), shut(0, 0), where(0)]))

    def test_its_times_are_told_anew_as_others_come_and_go(self):
        calls = self.opening + [comes(first=20), comes(first=20, last=20)]
        self.assertEqual([found(0, 0, 23, 33), found(0, 1, 28, 38)], ask(calls[:5] + [where(0), where(1)])[5:])
        # The third has to be the first that lands, two places ahead of its rank: there is no plan any more.
        self.assertEqual([found(0, 0, 23, 33), found(0, 1, 23, 33), found(0, 1, 23, 33)],
                         ask(calls + [where(0), where(1), where(2)])[6:])
        # Without the second it's but one place.
        self.assertEqual([found(0, 0, 28, 38), [2], found(0, 1, 23, 33)],
                         ask(calls + [goes(1), where(0), where(1), where(2)])[7:])

    def test_without_a_plan_at_its_first_time(self):
        calls = [begins(shift=0, taxi=3), room(0, 0, 9), comes(), comes(last=8, stay=4), where(0), where(1)]
        self.assertEqual([found(0, 0, 3, 13), found(0, 0, 3, 7)], ask(calls)[4:])

    def test_the_latest_times_of_all(self):
        calls = [begins(taxi=40), comes(first=1000, stay=400), where(0), lands(), where(0)]
        self.assertEqual([found(0, 0, 1040, 1440), [0, 2, 1000, 0, 0], found(1, 0, 1040, 1440)], ask(calls)[2:])

    def test_none_of_that_number_has_come(self):
        for number in (0, 1, GREATEST):
            self.assertEqual([-2], last([where(number)]))
        for number in (1, 2, 60, GREATEST):
            self.assertEqual([-2], last(self.opening + [where(number)]))
            self.assertEqual([-2], last(self.opening + [goes(0), where(number)]))
        self.assertEqual([-2], last(self.opening + [comes(stay=0), where(1)]))

    def test_it_changes_nothing(self):
        self.assertEqual([], changed_by(BUSY, [where(number) for number in (0, 1, 2, 3, 4, GREATEST)]))


class Free(unittest.TestCase):

    def setUp(self):
        # There from 20 up to 30.
        self.opening = [begins(far=9), stand(2, 0), stand(2, 1), at(20)]

    def test_on_a_new_airport(self):
        self.assertEqual([-2], last([free(0, 0, 1)]))
        self.assertEqual(there(), last([stand(), free(0, 0, 1440)]))

    def test_the_edges_of_from(self):
        self.assertEqual(there(0), last(self.opening + [free(0, 0, 1440)]))
        self.assertEqual(there(0), last(self.opening + [free(0, 29, 1440)]))
        self.assertEqual(there(), last(self.opening + [free(0, 30, 1440)]))
        self.assertEqual(there(), last(self.opening + [free(0, 1439, 1440)]))

    def test_the_edges_of_to(self):
        self.assertEqual(there(0), last(self.opening + [free(0, 0, 21)]))
        self.assertEqual(there(), last(self.opening + [free(0, 0, 20)]))
        self.assertEqual(there(), last(self.opening + [free(0, 0, 1)]))

    def test_one_minute(self):
        for minute in range(15, 35):
            expected = there(0) if 20 <= minute < 30 else there()
            self.assertEqual(expected, last(self.opening + [free(0, minute, minute + 1)]))

    def test_within_and_around(self):
        self.assertEqual(there(0), last(self.opening + [free(0, 24, 26)]))
        self.assertEqual(there(0), last(self.opening + [free(0, 20, 30)]))
        self.assertEqual(there(0), last(self.opening + [free(0, 10, 40)]))

    def test_only_those_at_that_stand(self):
        calls = self.opening + [at(21), at(22)]
        self.assertEqual([there(0), there(1)], ask(calls + [free(0, 0, 1440), free(1, 0, 1440)])[6:])

    def test_the_field_is_no_stand(self):
        self.assertEqual([-2], last(self.opening + [at(21), at(22), free(2, 0, 1440)]))

    def test_in_order(self):
        # They stand there in the order 2, 0, 3, 1.
        calls = [begins(far=9), stand(2, 0), at(40), at(80), at(20), at(60)]
        self.assertEqual(there(0, 1, 2, 3), last(calls + [free(0, 0, 1440)]))
        self.assertEqual(there(0, 3), last(calls + [free(0, 49, 61)]))
        self.assertEqual(there(0, 1, 3), last(calls + [free(0, 30, 81)]))
        self.assertEqual(there(), last(calls + [free(0, 50, 60)]))

    def test_a_stand_that_is_shut(self):
        self.assertEqual([changed([0]), there(), there(0)],
                         ask(self.opening + [shut(0), free(0, 0, 1440), free(1, 0, 1440)])[4:])
        self.assertEqual(there(), last(self.opening + [shut(1), free(1, 0, 1440)]))
        self.assertEqual(there(1), last(self.opening + [shut(0), shut(0, 0), at(25), free(0, 0, 1440)]))

    def test_those_in_the_air_and_those_that_landed(self):
        calls = self.opening + [lands(), at(30), free(0, 0, 1440)]
        self.assertEqual(there(0, 1), last(calls))

    def test_who_went_is_not_there(self):
        self.assertEqual(there(), last(self.opening + [goes(0), free(0, 0, 1440)]))
        self.assertEqual(there(), last(self.opening + [lands(), goes(0), free(0, 0, 1440)]))

    def test_who_is_late_is_there_longer(self):
        told = self.opening + [lands(), late(0, 50)]
        self.assertEqual([there(0), there()], ask(told + [free(0, 49, 50), free(0, 50, 51)])[6:])

    def test_to_is_not_behind_from_or_behind_the_last_minute(self):
        for begin, end in ((0, 0), (1, 0), (20, 20), (21, 20), (1440, 1440), (1440, 1441), (0, 1441), (0, GREATEST),
                           (GREATEST, 0), (GREATEST, 1440), (GREATEST, GREATEST), (1441, 1442)):
            self.assertEqual([-1], last(self.opening + [free(0, begin, end)]))

    def test_there_is_no_such_stand(self):
        for number in (2, 3, 4, GREATEST):
            self.assertEqual([-2], last(self.opening + [free(number, 0, 1440)]))
        self.assertEqual(there(), last([stand()] * 4 + [free(3, 0, 1)]))
        self.assertEqual([-2], last([stand()] * 4 + [free(4, 0, 1)]))

    def test_which_refusal_comes_first(self):
        for number in (2, GREATEST):
            for begin, end in ((0, 0), (0, 1441), (GREATEST, GREATEST)):
                self.assertEqual([-1], last(self.opening + [free(number, begin, end)]))

    def test_it_changes_nothing(self):
        queries = [free(0, 0, 1440), free(1, 10, 60), free(2, 0, 1), free(0, 5, 5), free(0, 0, GREATEST)]
        self.assertEqual([], changed_by(BUSY, queries))


class Steps(unittest.TestCase):

    def test_of_nobody(self):
        self.assertEqual(walked(0, 0), last([steps()]))
        self.assertEqual(walked(0, 0), last([begins(far=9), stand(2, 5), steps()]))
        self.assertEqual(walked(0, 0), last([begins(far=9), comes(), goes(0), steps()]))
        self.assertEqual(walked(0, 0), last([begins(far=9), comes(), lands(), goes(0), steps()]))

    def test_passengers_times_how_far(self):
        self.assertEqual(walked(63, 63), last([begins(far=9), comes(many=7), steps()]))
        self.assertEqual(walked(28, 28), last([begins(far=9), stand(2, 4), comes(many=7), steps()]))
        self.assertEqual(walked(0, 0), last([begins(far=9), stand(2, 4), comes(many=0), steps()]))
        self.assertEqual(walked(6000000, 6000000), last([begins(far=1000)] + [comes(many=1000)] * 6 + [steps()]))

    def test_of_all_together(self):
        calls = [begins(far=9), stand(2, 1), stand(2, 4), at(0, 100), at(1, 10), at(2, 1)]
        self.assertEqual(walked(149, 149), last(calls + [steps()]))
        self.assertEqual(walked(49, 14), last(calls + [lands(), goes(0), steps()]))

    def test_the_fewest_are_fewer_where_nobody_is_moved_to_save_steps(self):
        calls = [begins(far=1000), stand(2, 0), stand(2, 999), at(0, 1), at(1, 1000)]
        self.assertEqual(walked(999000, 999), last(calls + [steps()]))
        # Asking for the fewest doesn't set them so.
        self.assertEqual([found(0, 0, 0, 10), found(0, 1, 1, 11)], ask(calls + [steps(), where(0), where(1)])[6:])

    def test_the_fewest_behind_a_stand_that_was_shut(self):
        calls = [begins(far=9), stand(2, 2), comes(many=10)]
        self.assertEqual([walked(20, 20), changed([0]), walked(90, 90), changed(), walked(90, 20)],
                         ask(calls + [steps(), shut(0), steps(), shut(0, 0), steps()])[3:])

    def test_the_fewest_of_a_good_setting(self):
        # Both at the near stand would be 0, but they meet; by a ban not even the far one will do.
        opening = [begins(far=50), stand(1, 0), stand(2, 7)]
        self.assertEqual(walked(7, 7), last(opening + [at(0), at(1), steps()]))
        self.assertEqual(walked(50, 50), last(opening + [ban(0, 0, 1, 0), at(0), at(1), steps()]))
        self.assertEqual(walked(0, 0), last(opening + [ban(0, 0, 1, 0), at(0), at(10), steps()]))
        self.assertEqual(walked(14, 14), last(opening + [at(0, size=2), at(10, size=2), steps()]))

    def test_the_fewest_are_of_the_times_as_they_are(self):
        calls = [begins(far=9), stand(2, 0), at(0, 2), lands(), at(10, 1)]
        self.assertEqual([walked(0, 0), changed([1]), walked(9, 9), changed(), walked(9, 0)],
                         ask(calls + [steps(), late(0, 11), steps(), late(0, 10), steps()])[5:])

    def test_the_fewest_where_the_nearest_for_one_is_not_the_nearest_for_all(self):
        # The first one is nearest at 0, which is the only stand that the great one fits; all meet.
        calls = [begins(far=100), stand(2, 0), stand(0, 1), at(0, 10), at(1, 9, size=2)]
        self.assertEqual(walked(900, 10), last(calls + [steps()]))

    def test_it_changes_nothing(self):
        self.assertEqual([], changed_by(BUSY, [steps()]))
        calls = [begins(far=1000), stand(2, 0), stand(2, 999), at(0, 1), at(1, 1000), shut(1), shut(1, 0), lands()]
        self.assertEqual([], changed_by(calls, [steps(), steps()]))


class Moved(unittest.TestCase):

    def test_of_nobody(self):
        self.assertEqual([[0, 0]], ask([moved()]))
        self.assertEqual(moves(), last([stand(), comes(stay=0), moved()]))

    def test_who_came_has_not_been_moved(self):
        self.assertEqual(moves(0), last([stand(), comes(), moved()]))
        self.assertEqual(moves(0, 0, 0), last([stand(), comes(), comes(), comes(), lands(), moved()]))

    def test_over_several_calls(self):
        told = (
            (begins(far=9), [0]),
            (stand(2, 0), [0]),
            (stand(2, 1), [1]),
            (at(0, 5), came(0, 0)),
            (at(1, 1), came(1, 1)),
            (shut(0), changed([0])),
            (moved(), moves(1, 0)),
            (shut(1), changed([1])),
            (moved(), moves(1, 1)),
            (shut(0, 0), changed()),
            (moved(), moves(1, 1)),
            (at(2), came(2, 0)),
            (moved(), moves(1, 1, 0)),
            (shut(0), changed([2])),
            (moved(), moves(1, 1, 1)),
            (goes(2), [0, 0]),
            (moved(), moves(1, 1, 1)),
            (lands(), [0, 2, 0, 2, 0]),
            (goes(0), [1, 0]),
            (moved(), moves(1, 1, 1)),
            (shut(1, 0), changed()),
            (at(30), came(3, 1)),
            (moved(), moves(1, 1, 1, 0)),
        )
        self.assertEqual([answer for _, answer in told], ask([call for call, _ in told]))

    def test_one_is_moved_once_more_each_time(self):
        # Whenever their stand is shut they go to the other one.
        calls = [begins(far=9), stand(2, 0), stand(2, 1), comes(), comes(first=500)]
        for often in range(1, 7):
            calls += [shut((often - 1) % 2), shut((often - 1) % 2, 0)]
            self.assertEqual([changed([0, 1]), changed(), moves(often, often)], ask(calls + [moved()])[-3:])

    def test_by_each_call_that_may_move_somebody(self):
        opening = [begins(shift=2, far=10), room(1, 0, 9), stand(2, 0)]
        coming = opening + [comes(0, many=1), comes(0, many=2, first=10), comes(1, first=0, last=0, stay=1)]
        self.assertEqual([came(2, 0, [0]), moves(1, 0, 0)], ask(coming + [moved()])[-2:])
        going = opening + [comes(1, first=0, last=0, stay=1), comes(0, many=1, stay=5),
                           comes(2, many=2, first=1, last=1, stay=5), goes(0)]
        self.assertEqual([[0, 1, 1], moves(0, 1, 0)], ask(going + [moved()])[-2:])
        being_late = opening + [at(0, 2), lands(), at(10, 1), late(0, 11)]
        self.assertEqual([changed([1]), moves(0, 1)], ask(being_late + [moved()])[-2:])

    def test_a_refusal_moves_nobody(self):
        calls = [begins(far=9), stand(2, 0), comes(), shut(0, 2), shut(1), late(0, 5), goes(1), comes(stay=0)]
        self.assertEqual(moves(0), last(calls + [moved()]))

    def test_all_is_new_behind_a_beginning(self):
        calls = [begins(far=9), stand(2, 0), comes(), comes(first=50), shut(0)]
        self.assertEqual(moves(1, 1), last(calls + [moved()]))
        self.assertEqual(moves(), last(calls + [begins(), moved()]))
        self.assertEqual(moves(0), last(calls + [begins(), comes(), moved()]))
        self.assertEqual(moves(1, 1), last(calls + [begins(4), moved()]))

    def test_it_changes_nothing(self):
        self.assertEqual([], changed_by(BUSY + [moved()], [moved()]))


class State(unittest.TestCase):

    def test_at_the_beginning(self):
        self.assertEqual([[0, 3, 1, 0, 0, 0, 0, 0]], ask([state()]))
        self.assertEqual(stood(0), last([stand(), stand(), ban(0, 0, 1, 0), room(0, 0, 5), state()]))

    def test_as_it_was_begun(self):
        self.assertEqual(stood(0, (3, 1000, 40)), last([begins(3, 1000, 40), state()]))
        self.assertEqual(stood(0, (0, 0, 0)), last([begins(0, 0, 0), state()]))
        self.assertEqual(stood(0, (2, 5, 7)), last([begins(3, 1000, 40), begins(2, 5, 7), state()]))

    def test_in_the_air(self):
        calls = [begins(1, 9, 5), comes(first=10, stay=30), comes(first=2, stay=4), state()]
        self.assertEqual(stood(2, (1, 9, 5), (), (0, 1), ((0, 15, 45), (1, 7, 11))), last(calls))

    def test_in_the_middle_of_a_morning(self):
        calls = [begins(1, 9, 5), comes(first=10, stay=30), comes(first=2, stay=4), comes(first=30), lands()]
        self.assertEqual(stood(3, (1, 9, 5), ((1, 2),), (0, 2), ((0, 15, 45), (1, 7, 11), (2, 35, 45))),
                         last(calls + [state()]))
        self.assertEqual(stood(3, (1, 9, 5), ((1, 2), (0, 10)), (2,), ((0, 15, 45), (1, 7, 11), (2, 35, 45))),
                         last(calls + [lands(), state()]))
        # Who landed and left its place has landed still; who went away in the air came, and that's all.
        self.assertEqual(stood(3, (1, 9, 5), ((1, 2), (0, 10)), (), ((0, 15, 60),)),
                         last(calls + [lands(), goes(1), goes(2), late(0, 60), state()]))
        self.assertEqual(stood(4, (1, 9, 5), ((1, 2), (0, 10)), (3,), ((3, 16, 26),)),
                         last(calls + [lands(), goes(1), goes(2), goes(0), comes(), state()]))

    def test_those_that_landed_in_the_order_in_which_they_did(self):
        calls = [begins(shift=3)] + [comes(first=10 * k) for k in (3, 1, 2, 0)] + [lands()] * 4
        self.assertEqual([(3, 0), (1, 10), (2, 20), (0, 30)], [(answer[0], answer[2]) for answer in ask(calls)[5:]])
        self.assertEqual([8, 3, 0, 1, 10, 2, 20, 0, 30], last(calls + [state()])[5:14])

    def test_those_in_the_air_as_they_came_and_not_as_they_land(self):
        calls = [begins(shift=3)] + [comes(first=10 * k) for k in (3, 1, 2, 0)]
        self.assertEqual([4, 0, 1, 2, 3], last(calls + [state()])[6:11])

    def test_without_a_plan(self):
        calls = [room(0, 0, 9), comes(first=3), comes(first=4, last=5), state()]
        self.assertEqual(stood(2, (1, 0, 0), (), (0, 1), ((0, 13, 23), (1, 4, 14))), last(calls))
        calls = [begins(shift=0)] + calls
        self.assertEqual(stood(2, (0, 0, 0), (), (0, 1), ((0, 3, 13), (1, 4, 14))), last(calls))

    def test_behind_a_refusal(self):
        told = last(BUSY + [state()])
        for call in (begins(4), room(0, 0, 1), stand(), ban(0, 0, 1, 0), comes(stay=0), comes(many=1001), goes(9),
                     late(9, 9), late(2, 1441), shut(0, 2), shut(9), free(9, 0, 1), where(9)):
            answered = ask(BUSY + [call, state()])
            self.assertEqual(1, len(answered[-2]))
            self.assertLess(answered[-2][0], 0)
            self.assertEqual(told, answered[-1])

    def test_it_is_new_behind_a_beginning(self):
        self.assertEqual(stood(0, (2, 1, 0)), last(BUSY + [begins(2, 1, 0), state()]))

    def test_it_changes_nothing(self):
        self.assertEqual([], changed_by(BUSY, [state(), state()]))

"""Settings put right: sizes, bans, shut stands; the fewest changes, the fewest steps, the first; who was moved."""

import unittest

from tests.helper import (ask, ban, begins, came, changed, comes, goes, landed, lands, last, late, room, shut, stand,
                          went)


def at(time, many=1, size=0, stay=10, sort=0):
    """One that can land at that time alone."""
    return comes(sort, size, many, time, time, stay)


class Bans(unittest.TestCase):

    def setUp(self):
        self.stands = [begins(far=9), stand(2, 0), stand(2, 1)]

    def test_without_a_ban(self):
        self.assertEqual(came(1, 1), last(self.stands + [at(0, size=1), at(1, size=2)]))

    def test_a_ban_holds_told_from_either_side(self):
        for told in (ban(0, 1, 1, 2), ban(1, 2, 0, 1)):
            self.assertEqual(came(1, 2), last(self.stands + [told, at(0, size=1), at(1, size=2)]))

    def test_a_ban_is_of_these_sizes_at_these_stands(self):
        for told in (ban(0, 1, 1, 1), ban(0, 2, 1, 2), ban(0, 2, 1, 1), ban(0, 0, 1, 2), ban(1, 1, 0, 2)):
            self.assertEqual(came(1, 1), last(self.stands + [told, at(0, size=1), at(1, size=2)]))

    def test_a_ban_is_of_those_that_meet(self):
        calls = self.stands + [ban(0, 1, 1, 1), at(0, size=1, stay=20), at(30, size=0), at(33, size=1)]
        self.assertEqual(came(2, 1), last(calls))
        self.assertEqual(came(3, 1), last(calls + [at(20, size=1, stay=13)]))
        self.assertEqual(came(3, 2), last(calls + [at(19, size=1, stay=14)]))

    def test_a_ban_is_not_of_the_field(self):
        calls = self.stands + [ban(0, 1, 1, 1), at(0, size=1), at(1, size=1), at(2, size=1)]
        self.assertEqual([came(0, 0), came(1, 2), came(2, 2)], ask(calls)[4:])

    def test_another_stand_may_do(self):
        calls = self.stands + [stand(2, 5), ban(0, 0, 1, 0), at(0), at(1), at(2)]
        self.assertEqual([came(0, 0), came(1, 2), came(2, 3)], ask(calls)[5:])

    def test_several_bans_hold_each(self):
        calls = self.stands + [ban(0, 0, 1, 0), ban(0, 0, 1, 1), at(0, size=0)]
        self.assertEqual(came(1, 2), last(calls + [at(1, size=0)]))
        self.assertEqual(came(1, 2), last(calls + [at(1, size=1)]))
        self.assertEqual(came(1, 1), last(calls + [at(1, size=2)]))

    def test_who_must_move_is_moved_for_a_ban_too(self):
        # The first one stays longer than told, so it meets the second one across the ban.
        for many, moved in ((1, [1]), (2, [0])):
            calls = [begins(far=9), stand(0, 0), stand(2, 1), ban(0, 0, 1, 1), at(0, many=3 - many), lands(),
                     at(10, many=many, size=1)]
            self.assertEqual(came(1, 1), last(calls))
            self.assertEqual(changed(), last(calls + [late(0, 10)]))
            self.assertEqual(changed(moved), last(calls + [late(0, 11)]))


class FewestChanges(unittest.TestCase):

    def test_fewer_changes_go_before_fewer_steps(self):
        # Two changes, the first to 1 and the second to the field, would make 190 steps; one change makes 9001.
        calls = [begins(far=90), stand(2, 0), stand(2, 1), at(0, many=100), at(1, many=1), shut(0)]
        self.assertEqual([came(0, 0), came(1, 1), changed([0])], ask(calls)[3:])
        self.assertEqual(changed([1]), last(calls + [shut(1)]))

    def test_who_need_not_move_stays(self):
        calls = [begins(far=9), stand(2, 0), stand(2, 1)] + [at(10 * k) for k in range(4)] + [at(5), shut(0)]
        self.assertEqual(came(4, 1), ask(calls)[7])
        self.assertEqual(changed([0, 1, 2, 3]), last(calls))

    def test_of_as_few_changes_the_fewest_steps(self):
        for first, second, moved in ((5, 7, [0]), (7, 5, [1])):
            calls = [begins(far=9), stand(2, 0), at(0, first), lands(), at(10, second), late(0, 11)]
            self.assertEqual(changed(moved), last(calls))

    def test_of_as_few_steps_the_first(self):
        # The first flight stays at 0 then, which is less than the field's 1.
        calls = [begins(far=9), stand(2, 0), at(0, 5), lands(), at(10, 5), late(0, 11)]
        self.assertEqual(changed([1]), last(calls))

    def test_of_as_few_steps_the_first_is_the_lesser_place_and_not_the_fewer_moved(self):
        # Both are at 1, and 0 is as far: the first flight is the one that moves to 0.
        calls = [begins(far=9), stand(2, 3), stand(2, 3), shut(0), at(0, 5), lands(), at(10, 5), shut(0, 0)]
        self.assertEqual([came(0, 1), landed(0, 0, 1), came(1, 1), changed()], ask(calls)[4:])
        self.assertEqual(changed([0]), last(calls + [late(0, 11)]))

    def test_the_nearest_place_that_is_free(self):
        calls = [begins(far=9), stand(2, 0), stand(2, 7), stand(0, 1), stand(2, 5), at(0, 1, size=1)]
        self.assertEqual(changed([0]), last(calls + [shut(0)]))
        self.assertEqual(landed(0, 0, 3), last(calls + [shut(0), lands()]))
        self.assertEqual(landed(0, 0, 1), last(calls + [shut(3), shut(0), lands()]))
        self.assertEqual(landed(0, 0, 4), last(calls + [shut(3), shut(1), shut(0), lands()]))

    def test_several_change_where_one_is_not_enough(self):
        calls = [begins(far=9), stand(2, 0), stand(2, 0), stand(2, 0), at(0), at(1), at(2), at(3)]
        self.assertEqual([came(0, 0), came(1, 1), came(2, 2), came(3, 3)], ask(calls)[4:])
        self.assertEqual(changed([1]), last(calls + [shut(1)]))
        self.assertEqual(changed([2]), last(calls + [shut(1), shut(2)]))
        self.assertEqual(changed([0]), last(calls + [shut(1), shut(2), shut(0)]))

    def test_those_that_were_moved_are_told_rising(self):
        calls = [begins(far=9), stand(2, 0)] + [at(20 * k) for k in (5, 3, 1, 4, 2)] + [shut(0)]
        self.assertEqual(changed([0, 1, 2, 3, 4]), last(calls))

    def test_nobody_moves_back_by_itself(self):
        calls = [begins(far=9), stand(2, 0), at(0), shut(0), shut(0, 0), comes(first=500), lands(), goes(1)]
        self.assertEqual([came(0, 0), changed([0]), changed(), came(1, 0), landed(0, 0, 1), went(0)], ask(calls)[2:])

    def test_who_went_frees_its_place_for_the_next(self):
        calls = [begins(far=9), stand(2, 0), at(0), at(1), goes(0), at(2)]
        self.assertEqual([came(0, 0), came(1, 1), went(0), came(2, 0)], ask(calls)[2:])


class TimesOfOthers(unittest.TestCase):

    def test_moved_by_who_comes(self):
        # The third must land at 0, which holds the first one up until 9: it meets the second one then.
        opening = [begins(shift=2, far=10), room(1, 0, 9), stand(2, 0)]
        for many, moved in ((2, [0]), (1, [1])):
            calls = opening + [comes(0, 0, many=3 - many, first=0), comes(0, 0, many=many, first=10),
                               comes(1, 0, first=0, last=0, stay=1)]
            self.assertEqual([came(0, 0), came(1, 0), came(2, 0, moved)], ask(calls)[3:])
            self.assertEqual(went(0), last(calls + [goes(2)]))

    def test_moved_by_who_goes_away(self):
        # Without the first one the second is due at 0 in the place of 9, and meets the third.
        opening = [begins(shift=2, far=10), room(1, 0, 9), stand(2, 0)]
        for many, moved in ((2, [1]), (1, [2])):
            calls = opening + [comes(1, first=0, last=0, stay=1), comes(0, many=3 - many, first=0, stay=5),
                               comes(2, many=many, first=1, last=1, stay=5), goes(0)]
            self.assertEqual([came(0, 0), came(1, 0), came(2, 0), went(0, moved)], ask(calls)[3:])

    def test_who_has_landed_may_be_moved_too(self):
        opening = [begins(shift=2, far=10), room(1, 0, 9), stand(2, 0), comes(0, many=1, first=9, stay=10), lands()]
        calls = opening + [comes(2, many=5, first=0, stay=5), comes(2, many=5, first=19, stay=5)]
        self.assertEqual([came(1, 1), came(2, 0)], ask(calls)[5:])
        self.assertEqual(changed([0]), last(calls + [late(0, 20)]))

    def test_who_is_late_may_be_moved_itself_or_move_others(self):
        opening = [begins(far=10), stand(2, 0), at(0, many=2), lands()]
        self.assertEqual(changed(), last(opening + [at(10, many=1), late(0, 10)]))
        self.assertEqual(changed([1]), last(opening + [at(10, many=1), late(0, 11)]))
        self.assertEqual(changed([0]), last(opening + [at(10, many=3), late(0, 11)]))
        self.assertEqual(changed([0]), last(opening + [at(10, many=1), at(20, many=1), at(30, many=1), late(0, 40)]))

    def test_nobody_is_moved_by_who_leaves_its_place(self):
        calls = [begins(far=9), stand(2, 0)] + [at(k) for k in range(6)] + [lands()] * 6
        for number in range(6):
            calls.append(goes(number))
            self.assertEqual(went(1), last(calls))

"""Point 5: goes, late, shut; what each answers and refuses."""

import unittest

from tests.helper import (GREATEST, ask, begins, came, changed, comes, goes, landed, lands, last, late, shut, stand,
                          went)


class Goes(unittest.TestCase):

    def test_who_is_in_the_air_goes_away(self):
        self.assertEqual(went(0), last([comes(), goes(0)]))
        self.assertEqual(landed(1, 0, 0), last([comes(), comes(), goes(0), lands()]))

    def test_who_has_landed_leaves_its_place(self):
        calls = [begins(far=9), stand(2, 0), comes(stay=100), lands(), comes(stay=100), goes(0), comes(stay=100),
                 goes(1), comes(stay=100)]
        self.assertEqual([came(0, 0), landed(0, 0, 0), came(1, 1), went(1), came(2, 0), went(0), came(3, 1)],
                         ask(calls)[2:])

    def test_none_of_that_number_has_come(self):
        for number in (0, 1, 60, GREATEST):
            self.assertEqual([-2], last([goes(number)]))
        self.assertEqual([-2], last([comes(), comes(), goes(2)]))
        self.assertEqual([-2], last([comes(), comes(stay=0), goes(1)]))

    def test_it_went(self):
        self.assertEqual([-4], last([comes(), goes(0), goes(0)]))
        self.assertEqual([-4], last([comes(), lands(), goes(0), goes(0)]))

    def test_a_refused_one_changes_nothing(self):
        calls = [begins(far=9), stand(2, 0), comes(), comes(), goes(0), comes(), lands(), lands(), goes(1), comes()]
        for at in range(len(calls) + 1):
            answered = ask(calls[:at] + [goes(9)] + calls[at:])
            self.assertEqual([-2], answered[at])
            self.assertEqual(ask(calls), answered[:at] + answered[at + 1:])
        for at in range(5, len(calls) + 1):
            answered = ask(calls[:at] + [goes(0)] + calls[at:])
            self.assertEqual([-4], answered[at])
            self.assertEqual(ask(calls), answered[:at] + answered[at + 1:])


class Late(unittest.TestCase):

    def setUp(self):
        self.opening = [begins(far=9, taxi=3), stand(2, 0), comes(first=20, last=20, stay=10), lands()]

    def test_it_goes_then(self):
        # It is there from 23 on; the next one comes to its place 3 behind its landing.
        for end in (24, 33, 50, 1003):
            told = self.opening + [late(0, end)]
            self.assertEqual(changed(), last(told))
            self.assertEqual(came(1, 0), last(told + [comes(first=max(end - 3, 21))]))
            if end > 24:
                self.assertEqual(came(1, 1), last(told + [comes(first=end - 4, last=end - 4)]))

    def test_it_may_be_told_again(self):
        told = self.opening + [late(0, 300), late(0, 200)]
        self.assertEqual(came(1, 0), last(told + [comes(first=197)]))
        self.assertEqual(came(1, 1), last(told + [comes(first=196)]))

    def test_what_was_told_holds_behind_other_calls(self):
        told = self.opening + [late(0, 200), comes(), comes(), lands(), shut(0, 0), goes(1), goes(2)]
        self.assertEqual(came(3, 0), last(told + [comes(first=197)]))
        self.assertEqual(came(3, 1), last(told + [comes(first=196)]))

    def test_behind_when_it_comes_and_not_behind_the_last_minute(self):
        self.assertEqual([-1], last(self.opening + [late(0, 0)]))
        self.assertEqual([-1], last(self.opening + [late(0, 22)]))
        self.assertEqual([-1], last(self.opening + [late(0, 23)]))
        self.assertEqual(changed(), last(self.opening + [late(0, 24)]))
        self.assertEqual(changed(), last(self.opening + [late(0, 1440)]))
        self.assertEqual([-1], last(self.opening + [late(0, 1441)]))
        self.assertEqual([-1], last(self.opening + [late(0, GREATEST)]))

    def test_none_of_that_number_has_come(self):
        self.assertEqual([-2], last([late(0, 100)]))
        self.assertEqual([-2], last(self.opening + [late(1, 100)]))
        self.assertEqual([-2], last(self.opening + [late(GREATEST, 100)]))

    def test_it_went_or_is_in_the_air(self):
        self.assertEqual([-4], last(self.opening + [goes(0), late(0, 100)]))
        self.assertEqual([-4], last([comes(), goes(0), late(0, 100)]))
        self.assertEqual([-4], last([comes(), late(0, 100)]))

    def test_which_refusal_comes_first(self):
        for end in (0, 1441, GREATEST):
            self.assertEqual([-2], last(self.opening + [late(1, end)]))
            self.assertEqual([-4], last(self.opening + [goes(0), late(0, end)]))
            self.assertEqual([-4], last([comes(), late(0, end)]))

    def test_a_refused_one_changes_nothing(self):
        calls = self.opening + [comes(first=30), comes(first=29), comes(first=100), goes(1), lands(), comes(first=40)]
        for call, refusal in ((late(0, 23), -1), (late(0, 1441), -1), (late(3, 100), -4), (late(9, 100), -2)):
            for at in range(7, 9):
                answered = ask(calls[:at] + [call] + calls[at:])
                self.assertEqual([refusal], answered[at])
                self.assertEqual(ask(calls), answered[:at] + answered[at + 1:])


class Shut(unittest.TestCase):

    def test_it_takes_nobody_till_it_is_in_use_again(self):
        opening = [begins(far=9), stand(2, 0), shut(0)]
        self.assertEqual(changed(), last(opening))
        self.assertEqual(came(0, 1), last(opening + [comes()]))
        self.assertEqual(came(0, 0), last(opening + [shut(0, 0), comes()]))
        self.assertEqual(came(0, 1), last(opening + [shut(0, 1), comes()]))

    def test_only_that_stand_is_shut(self):
        opening = [begins(far=9), stand(2, 0), stand(2, 1), stand(2, 2)]
        self.assertEqual(came(0, 0), last(opening + [shut(1), comes()]))
        self.assertEqual(came(0, 1), last(opening + [shut(0), comes()]))
        self.assertEqual(came(0, 2), last(opening + [shut(0), shut(1), comes()]))
        self.assertEqual(came(0, 1), last(opening + [shut(0), shut(1), shut(1, 0), comes()]))

    def test_it_may_be_shut_twice_and_in_use_twice(self):
        opening = [begins(far=9), stand(2, 0), comes()]
        self.assertEqual([changed(), changed([0]), changed(), changed(), changed()],
                         ask(opening + [shut(0, 0), shut(0), shut(0), shut(0, 0), shut(0, 0)])[3:])

    def test_neither_shut_nor_in_use(self):
        for truth in (2, 3, GREATEST):
            self.assertEqual([-1], last([stand(), shut(0, truth)]))

    def test_there_is_no_such_stand(self):
        for number in (2, 3, GREATEST):
            self.assertEqual([-2], last([stand(), stand(), shut(number)]))
            self.assertEqual([-2], last([stand(), stand(), shut(number, 0)]))

    def test_which_refusal_comes_first(self):
        self.assertEqual([-1], last([shut(0, 2)]))
        self.assertEqual([-1], last([stand(), shut(GREATEST, GREATEST)]))

    def test_a_refused_one_changes_nothing(self):
        calls = [begins(far=9), stand(2, 0), comes(), shut(0), comes(), shut(0, 0), comes(), lands()]
        for call, refusal in ((shut(0, 2), -1), (shut(1, 1), -2), (shut(1, 0), -2)):
            for at in range(2, len(calls) + 1):
                answered = ask(calls[:at] + [call] + calls[at:])
                self.assertEqual([refusal], answered[at])
                self.assertEqual(ask(calls), answered[:at] + answered[at + 1:])

    def test_the_last_stand_may_be_shut(self):
        calls = [begins(far=9)] + [stand(2, 8 - k) for k in range(4)] + [shut(3), comes()]
        self.assertEqual(came(0, 2), last(calls))

    def test_stands_may_follow_behind_a_shut_one(self):
        self.assertEqual([changed(), [1], came(0, 1)], ask([begins(far=9), stand(), shut(0), stand(), comes()])[2:])

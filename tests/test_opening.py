"""Points 1 and 2: begins, room, stand, ban; and how an airport is at its beginning."""

import unittest

from tests.helper import (GREATEST, ask, ban, begins, came, comes, goes, landed, landings, lands, last, late, room,
                          shut, stand)


class AtTheBeginning(unittest.TestCase):

    def test_nobody_has_come_and_there_are_no_stands(self):
        self.assertEqual([[-4]], ask([lands()]))
        self.assertEqual([[-2]], ask([goes(0)]))
        self.assertEqual([[-2]], ask([late(0, 1)]))
        self.assertEqual([[-2]], ask([shut(0)]))
        self.assertEqual([[-2]], ask([ban(0, 0, 1, 0)]))
        self.assertEqual([came(0, 0)], ask([comes()]))

    def test_the_shift_is_one(self):
        # With a shift of 1 the last may not be first, but the second may.
        self.assertEqual([(0, 10), (1, 11), (2, 12)],
                         landings([comes(first=10), comes(first=10), comes(first=0)], 3))
        self.assertEqual([(1, 0), (0, 10)], landings([comes(first=10), comes(first=0)], 2))

    def test_all_rooms_are_one(self):
        for one in range(4):
            for other in range(4):
                self.assertEqual([(0, 0), (1, 1)], landings([comes(one), comes(other)], 2))

    def test_the_field_is_not_far(self):
        self.assertEqual(came(0, 1), last([stand(2, 1), comes()]))
        self.assertEqual(came(0, 0), last([stand(2, 0), comes()]))

    def test_the_taxi_is_none(self):
        opening = [comes(first=7), lands()]
        self.assertEqual([-1], last(opening + [late(0, 7)]))
        self.assertEqual([0, 0], last(opening + [late(0, 8)]))


class Begins(unittest.TestCase):

    def test_the_least_and_the_greatest_that_is_taken(self):
        self.assertEqual([[0]] * 4, ask([begins(0, 0, 0), begins(3, 0, 0), begins(0, 1000, 0), begins(0, 0, 40)]))
        self.assertEqual([[0]], ask([begins(3, 1000, 40)]))

    def test_one_beyond_is_refused(self):
        for call in (begins(4, 0, 0), begins(0, 1001, 0), begins(0, 0, 41)):
            self.assertEqual([[-1]], ask([call]))

    def test_the_greatest_number_is_refused(self):
        for call in (begins(GREATEST, 0, 0), begins(0, GREATEST, 0), begins(0, 0, GREATEST)):
            self.assertEqual([[-1]], ask([call]))

    def test_the_shift_is_taken(self):
        three = [comes(first=10), comes(first=10), comes(first=0)]
        self.assertEqual([(0, 10), (1, 11), (2, 12)], landings([begins(shift=0)] + three, 3))
        self.assertEqual([(2, 0), (0, 10), (1, 11)], landings([begins(shift=2)] + three, 3))

    def test_the_field_is_as_far_as_told(self):
        self.assertEqual(came(0, 1), last([begins(far=4), stand(2, 5), comes()]))
        self.assertEqual(came(0, 0), last([begins(far=6), stand(2, 5), comes()]))

    def test_the_taxi_is_as_long_as_told(self):
        opening = [begins(taxi=40), comes(first=7), lands()]
        self.assertEqual([-1], last(opening + [late(0, 47)]))
        self.assertEqual([0, 0], last(opening + [late(0, 48)]))

    def test_all_is_new(self):
        old = [begins(3, 1000, 40), room(0, 0, 9), stand(2, 5), stand(2, 5), ban(0, 0, 1, 0), shut(0), comes(),
               comes(), lands()]
        new = [begins(1, 10, 0), stand(2, 5), stand(2, 5), ban(0, 1, 1, 1), comes(), lands(), comes(first=1),
               lands(), late(0, 1)]
        self.assertEqual([[0], [0], [1], [1], came(0, 0), landed(0, 0, 0), came(1, 1), landed(1, 1, 1), [0, 0]],
                         ask(old + new)[len(old):])
        self.assertEqual(ask(new), ask(old + new)[len(old):])

    def test_a_refused_one_changes_nothing(self):
        calls = [begins(2, 6, 3), room(0, 0, 4), stand(2, 5), comes(first=10), comes(first=10), comes(first=0),
                 lands(), lands(), lands(), late(2, 4)]
        for call in (begins(4, 1, 1), begins(1, 1001, 1), begins(1, 1, 41)):
            for at in range(1, len(calls) + 1):
                answered = ask(calls[:at] + [call] + calls[at:])
                self.assertEqual([-1], answered[at])
                self.assertEqual(ask(calls), answered[:at] + answered[at + 1:])


class Room(unittest.TestCase):

    def test_the_least_and_the_greatest_that_is_taken(self):
        self.assertEqual([[0]] * 4, ask([room(0, 0, 1), room(3, 0, 9), room(0, 3, 1), room(3, 3, 9)]))

    def test_one_beyond_is_refused(self):
        for call in (room(4, 0, 1), room(0, 4, 1), room(0, 0, 0), room(0, 0, 10)):
            self.assertEqual([[-1]], ask([call]))

    def test_the_greatest_number_is_refused(self):
        for call in (room(GREATEST, 0, 1), room(0, GREATEST, 1), room(0, 0, GREATEST)):
            self.assertEqual([[-1]], ask([call]))

    def test_it_is_told_of_the_class_behind(self):
        for one in range(4):
            for other in range(4):
                opening = [begins(shift=0), room(one, other, 9)]
                self.assertEqual([(0, 0), (1, 9)], landings(opening + [comes(one), comes(other)], 2))
                if one != other:
                    self.assertEqual([(0, 0), (1, 1)], landings(opening + [comes(other), comes(one)], 2))

    def test_the_last_told_holds(self):
        self.assertEqual([(0, 0), (1, 3)], landings([room(0, 0, 9), room(0, 0, 3), comes(), comes()], 2))

    def test_it_is_refused_once_somebody_has_come(self):
        self.assertEqual([-4], last([comes(), room(0, 0, 1)]))
        self.assertEqual([-4], last([comes(), lands(), goes(0), room(0, 0, 1)]))
        self.assertEqual([-4], last([comes(), goes(0), room(0, 0, 1)]))

    def test_a_wrong_one_is_refused_as_wrong_first(self):
        for call in (room(4, 0, 1), room(0, 4, 1), room(0, 0, 0), room(0, 0, 10)):
            self.assertEqual([-1], last([comes(), call]))

    def test_a_refused_one_changes_nothing(self):
        calls = [room(0, 0, 5), room(0, 0, 10), comes(), room(0, 0, 2), comes()]
        self.assertEqual([(0, 0), (1, 5)], landings(calls, 2))

    def test_it_is_taken_after_a_refused_coming(self):
        self.assertEqual([0], last([comes(stay=0), room(0, 0, 1)]))


class Stands(unittest.TestCase):

    def test_they_are_numbered_from_none_up_to_four(self):
        self.assertEqual([[0], [1], [2], [3], [-5], [-5]], ask([stand()] * 6))

    def test_the_greatest_that_is_taken(self):
        self.assertEqual([[0], [1], [2], [3]], ask([stand(0, 0), stand(1, 0), stand(2, 0), stand(2, 1000)]))

    def test_one_beyond_is_refused(self):
        for call in (stand(3, 0), stand(0, 1001), stand(GREATEST, 0), stand(0, GREATEST)):
            self.assertEqual([[-1], [0]], ask([call, stand()]))

    def test_it_is_refused_once_somebody_has_come(self):
        self.assertEqual([-4], last([comes(), stand()]))
        self.assertEqual([-4], last([comes(), goes(0), stand()]))

    def test_which_refusal_comes_first(self):
        full = [stand()] * 4
        self.assertEqual([-1], last(full + [stand(3, 0)]))
        self.assertEqual([-1], last(full + [stand(0, 1001)]))
        self.assertEqual([-1], last(full + [comes(), stand(3, 0)]))
        self.assertEqual([-4], last(full + [comes(), stand(2, 0)]))

    def test_a_refused_one_is_not_there(self):
        self.assertEqual(came(0, 0), last([stand(3, 0), stand(0, 1001), comes()]))
        self.assertEqual(came(1, 0), last([comes(), stand(2, 0), comes()]))


class Bans(unittest.TestCase):

    def test_it_answers_how_many_there_are(self):
        answered = ask([stand(), stand(), ban(0, 0, 1, 0), ban(1, 2, 0, 1), ban(0, 2, 1, 2)])
        self.assertEqual([[1], [2], [3]], answered[2:])

    def test_twenty_are_taken(self):
        told = [ban(one, size, other, other_size)
                for one, other in ((0, 1), (2, 3), (1, 2)) for size in range(3) for other_size in range(3)]
        answered = ask([stand()] * 4 + told[:21] + [ban(0, 0, 1, 0)])
        self.assertEqual([[many] for many in range(1, 21)] + [[-5], [-5]], answered[4:])

    def test_one_told_again_counts_again(self):
        answered = ask([stand(), stand()] + [ban(0, 0, 1, 0), ban(1, 0, 0, 0)] * 11)
        self.assertEqual([[many] for many in range(1, 21)] + [[-5], [-5]], answered[2:])

    def test_a_wrong_one_is_refused(self):
        two = [stand(), stand()]
        for call in (ban(0, 3, 1, 0), ban(0, 0, 1, 3), ban(0, GREATEST, 1, 0), ban(0, 0, 1, GREATEST),
                     ban(0, 0, 0, 0), ban(1, 0, 1, 2)):
            self.assertEqual([-1], last(two + [call]))

    def test_there_is_no_such_stand(self):
        two = [stand(), stand()]
        for call in (ban(2, 0, 1, 0), ban(0, 0, 2, 0), ban(GREATEST, 0, 0, 0), ban(0, 0, GREATEST, 0),
                     ban(2, 0, 3, 0)):
            self.assertEqual([-2], last(two + [call]))

    def test_which_refusal_comes_first(self):
        full = [stand(), stand()] + [ban(0, 0, 1, 0)] * 20
        for call in (ban(0, 3, 1, 0), ban(0, 0, 0, 0), ban(5, 0, 1, 0), ban(0, 0, 1, 0)):
            self.assertEqual([-4], last(full + [comes(), call]))
        self.assertEqual([-1], last(full + [ban(5, 3, 1, 0)]))
        self.assertEqual([-1], last(full + [ban(5, 0, 5, 0)]))
        self.assertEqual([-1], last(full + [ban(GREATEST, 0, GREATEST, 0)]))
        self.assertEqual([-2], last(full + [ban(0, 0, 2, 0)]))

    def test_it_is_refused_once_somebody_has_come(self):
        self.assertEqual([-4], last([stand(), stand(), comes(), goes(0), ban(0, 0, 1, 0)]))

    def test_a_refused_one_is_not_there(self):
        answered = ask([stand(), stand(), ban(0, 3, 1, 0), ban(0, 0, 2, 0), ban(0, 0, 1, 0)])
        self.assertEqual([1], answered[-1])

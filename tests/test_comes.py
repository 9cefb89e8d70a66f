"""Point 3: comes."""

import unittest

from airmornings.air import Craft
from airmornings.airport import Airport
from tests.helper import GREATEST, ask, begins, came, comes, goes, landed, lands, last, late, shut, stand


class Comes(unittest.TestCase):

    def test_they_are_numbered_as_they_come(self):
        self.assertEqual([came(0, 0), came(1, 0), came(2, 0)], ask([comes()] * 3))

    def test_a_number_is_never_given_twice(self):
        self.assertEqual(came(2, 0), last([comes(), comes(), goes(0), goes(1), comes()]))

    def test_the_field_is_numbered_behind_the_stands(self):
        for many in range(5):
            self.assertEqual(came(0, many), last([stand(0, 0)] * many + [comes(size=1)]))

    def test_the_least_and_the_greatest_that_is_taken(self):
        for call in (comes(stay=1), comes(stay=400), comes(sort=0), comes(sort=3), comes(first=0, last=0),
                     comes(first=1000, last=1000), comes(first=0, last=1000), comes(size=0), comes(size=2),
                     comes(many=0), comes(many=1000), comes(3, 2, 1000, 1000, 1000, 400)):
            self.assertEqual([came(0, 0)], ask([call]))

    def test_one_beyond_is_refused(self):
        for call in (comes(stay=0), comes(stay=401), comes(sort=4), comes(first=1, last=0), comes(first=7, last=6),
                     comes(first=0, last=1001), comes(first=1001, last=1001), comes(first=1001, last=1000),
                     comes(size=3), comes(many=1001)):
            self.assertEqual([[-1], came(0, 0)], ask([call, comes()]))

    def test_the_greatest_number_is_refused(self):
        for call in (comes(stay=GREATEST), comes(sort=GREATEST), comes(first=GREATEST), comes(last=GREATEST),
                     comes(first=GREATEST, last=GREATEST), comes(size=GREATEST), comes(many=GREATEST)):
            self.assertEqual([[-1], came(0, 0)], ask([call, comes()]))

    def test_the_latest_times_of_all(self):
        calls = [begins(0, 0, 40), stand(2, 0), comes(3, 2, 1000, 1000, 1000, 400), lands(), late(0, 1440)]
        self.assertEqual([came(0, 0), landed(0, 1000, 0), [0, 0]], ask(calls)[2:])


class SixFlights(unittest.TestCase):

    def test_a_seventh_is_refused(self):
        self.assertEqual([came(5, 0), [-5], [-5]], ask([comes()] * 8)[5:])

    def test_who_has_landed_is_among_them(self):
        self.assertEqual([-5], last([comes()] * 6 + [lands()] * 6 + [comes()]))
        self.assertEqual([-5], last([comes(), lands()] * 6 + [comes()]))

    def test_who_has_gone_is_not(self):
        self.assertEqual(came(6, 0), last([comes()] * 6 + [goes(3), comes()]))
        self.assertEqual(came(6, 0), last([comes()] * 6 + [lands(), goes(0), comes()]))

    def test_a_wrong_one_is_refused_as_wrong_first(self):
        full = [comes()] * 6
        for call in (comes(stay=0), comes(sort=4), comes(first=2, last=1), comes(last=1001), comes(size=3),
                     comes(many=1001)):
            self.assertEqual([-1], last(full + [call]))

    def test_a_refused_one_changes_nothing(self):
        full = [stand(2, 0)] + [comes(first=100 * k, last=100 * k, stay=100) for k in range(6)]
        behind = [goes(3), comes(first=300, last=300, stay=100)] + [lands()] * 6 + [shut(0)]
        answered = ask(full + [comes(first=0)] + behind)
        self.assertEqual([-5], answered[7])
        self.assertEqual(ask(full + behind), answered[:7] + answered[8:])
        self.assertEqual(came(6, 0), answered[9])


class TooManyInTheAir(unittest.TestCase):

    def test_eight_in_the_air_are_refused_before_the_gates_are_asked(self):
        # There are never so many in the air through the calls alone: 6 flights are the most before.
        airport = Airport()
        airport.air.waiting = [Craft(number, 0, 0, 1000) for number in range(8)]
        self.assertEqual([-5], airport.comes(0, 3, 0, 0, 0, 1))
        self.assertEqual([-5], airport.comes(0, 0, 1001, 0, 0, 1))
        self.assertEqual([-1], airport.comes(4, 0, 0, 0, 0, 1))
        airport.air.waiting.pop()
        self.assertEqual([-1], airport.comes(0, 3, 0, 0, 0, 1))


class SixtyHaveCome(unittest.TestCase):

    def test_the_sixty_first_is_refused(self):
        calls = []
        for number in range(60):
            calls += [comes(), goes(number)]
        self.assertEqual([came(59, 0), [0, 0], [-5]], ask(calls + [comes()])[-3:])

    def test_sixty_are_refused_behind_the_air_and_before_the_gates(self):
        calls = []
        for number in range(60):
            calls += [comes(), goes(number)]
        for call in (comes(size=3), comes(many=1001)):
            self.assertEqual([-5], last(calls + [call]))
            self.assertEqual([-1], last(calls[:-2] + [call]))
        for call in (comes(stay=0), comes(stay=401), comes(sort=4), comes(first=2, last=1), comes(last=1001)):
            self.assertEqual([-1], last(calls + [call]))


class Places(unittest.TestCase):

    def test_the_fewest_steps(self):
        stands = [begins(far=40), stand(2, 30), stand(2, 10), stand(2, 20)]
        self.assertEqual([came(0, 1), came(1, 2), came(2, 0), came(3, 3), came(4, 3)], ask(stands + [comes()] * 5)[4:])

    def test_of_as_few_steps_the_first(self):
        self.assertEqual(came(0, 1), last([begins(far=9), stand(2, 6), stand(2, 5), stand(2, 5), comes()]))
        self.assertEqual(came(0, 1), last([begins(far=5), stand(2, 6), stand(2, 5), comes()]))

    def test_without_passengers_there_are_no_steps(self):
        self.assertEqual(came(0, 0), last([begins(far=0), stand(2, 1000), comes(many=0)]))

    def test_the_field_may_be_nearest(self):
        self.assertEqual(came(0, 2), last([begins(far=4), stand(2, 6), stand(2, 5), comes()]))

    def test_a_stand_takes_flights_up_to_its_size(self):
        stands = [begins(far=9), stand(0, 1), stand(1, 2), stand(2, 3)]
        for size in range(3):
            self.assertEqual(came(0, size), last(stands + [comes(size=size)]))
        self.assertEqual([came(0, 0), came(1, 1), came(2, 2), came(3, 3)], ask(stands + [comes()] * 4)[4:])
        self.assertEqual(came(1, 3), last(stands + [comes(size=2), comes(size=2)]))

    def test_nobody_is_moved_to_save_steps(self):
        calls = [begins(far=1000), stand(2, 0), stand(2, 999), comes(many=1), comes(many=1000)]
        self.assertEqual([came(0, 0), came(1, 1)], ask(calls)[3:])

    def test_who_comes_just_now_is_not_among_those_moved(self):
        calls = [stand(2, 0), begins(far=9), stand(2, 0), comes(), comes(), comes()]
        for answer in ask(calls)[3:]:
            self.assertEqual(0, answer[3])

    def test_there_is_room_up_to_when_it_comes_but_not_later(self):
        alone = [begins(far=9), stand(2, 0), comes(first=0, last=0, stay=10)]
        self.assertEqual(came(1, 0), last(alone + [comes(first=10, last=10)]))
        self.assertEqual(came(1, 1), last(alone + [comes(first=9, last=9)]))
        alone = [begins(far=9), stand(2, 0), comes(first=20, last=20, stay=10)]
        self.assertEqual(came(1, 0), last(alone + [comes(first=10, last=10, stay=10)]))
        self.assertEqual(came(1, 1), last(alone + [comes(first=10, last=10, stay=11)]))

    def test_both_taxi(self):
        # Who has landed and who is in the air are both so much later at a place.
        for lag in (0, 25):
            opening = [begins(far=9, taxi=lag), stand(2, 0), comes(first=0, last=0, stay=10), lands()]
            self.assertEqual(came(1, 0), last(opening + [comes(first=10, last=10)]))
            self.assertEqual(came(1, 1), last(opening + [comes(first=9, last=9)]))
            self.assertEqual(came(1, 0), last(opening + [late(0, 5 + lag + 1), comes(first=6, last=6)]))
            self.assertEqual(came(1, 1), last(opening + [late(0, 5 + lag + 1), comes(first=5, last=5)]))

"""Whole mornings, each answer held against a slow model that goes through all orders and all settings."""

import itertools
import random
import unittest

from tests.helper import (GREATEST, ask, ban, begins, came, changed, comes, flat, goes, landed, lands, late, room,
                          shut, stand, went)

MORNINGS = 300


class Model:
    """The document's words, with no care for time: every order and every setting is looked at."""

    def __init__(self, shift=1, far=0, taxi=0):
        self.shift, self.far, self.taxi = shift, far, taxi
        self.rooms = {}
        self.stands = []
        self.closed = set()
        self.bans = []
        self.came = []
        self.landed = {}
        self.air = []
        self.there = []
        self.ends = {}
        self.places = {}

    # The air.

    def times(self, order):
        times = dict(self.landed)
        for one in order:
            sort, _, _, first, _, _ = self.came[one]
            times[one] = max([first] + [time + self.rooms.get((self.came[other][0], sort), 1)
                                        for other, time in times.items()])
        return times

    def allowed(self, order):
        times = self.times(order)
        for place, one in enumerate(order, start=len(self.landed)):
            rank = sum(other < one for other in list(self.landed) + self.air)
            if times[one] > self.came[one][4] or abs(place - rank) > self.shift:
                return False
        return True

    def plan(self):
        best = None
        for order in itertools.permutations(self.air):
            if self.allowed(order):
                times = self.times(order)
                end = times[order[-1]] if order else 0
                key = (end, sum(times[one] - self.came[one][3] for one in order), order)
                if best is None or key < best:
                    best = key
        return None if best is None else best[2]

    # The gates.

    def spans(self):
        order = self.plan()
        due = {one: self.came[one][3] for one in self.air} if order is None else self.times(order)
        due.update(self.landed)
        begin = {one: due[one] + self.taxi for one in self.there}
        return {one: (begin[one], self.ends.get(one, begin[one] + self.came[one][5])) for one in self.there}

    def clash(self, spans, one, place, other, other_place):
        if len(self.stands) in (place, other_place):
            return False
        if max(spans[one][0], spans[other][0]) >= min(spans[one][1], spans[other][1]):
            return False
        sides = {(place, self.came[one][1]), (other_place, self.came[other][1])}
        return place == other_place or any({said[:2], said[2:]} == sides for said in self.bans)

    def put_right(self):
        spans = self.spans()
        walks = [far for _, far in self.stands] + [self.far]
        choices = []
        for one in self.there:
            fitting = [place for place, (size, _) in enumerate(self.stands)
                       if place not in self.closed and self.came[one][1] <= size]
            choices.append(fitting + [len(self.stands)])
        best = None
        for places in itertools.product(*choices):
            setting = list(zip(self.there, places))
            changes = sum(self.places.get(one, place) != place for one, place in setting)
            steps = sum(self.came[one][2] * walks[place] for one, place in setting)
            key = (changes, steps, places)
            if (best is None or key < best) and not any(
                    self.clash(spans, *left, *right) for left, right in itertools.combinations(setting, 2)):
                best = key
        setting = dict(zip(self.there, best[2]))
        moved = [one for one in self.there if self.places.get(one, setting[one]) != setting[one]]
        self.places = setting
        return moved

    # The calls.

    def answer(self, call):
        return (self.begins, self.room, self.stand, self.ban, self.comes, self.lands, self.goes, self.late,
                self.shut)[call[0]](*call[1:])

    def begins(self, shift, far, taxi):
        if shift > 3 or far > 1000 or taxi > 40:
            return [-1]
        Model.__init__(self, shift, far, taxi)
        return [0]

    def room(self, one, other, much):
        if one > 3 or other > 3 or not 1 <= much <= 9:
            return [-1]
        if self.came:
            return [-4]
        self.rooms[one, other] = much
        return [0]

    def stand(self, size, far):
        if size > 2 or far > 1000:
            return [-1]
        if self.came:
            return [-4]
        if len(self.stands) == 4:
            return [-5]
        self.stands.append((size, far))
        return [len(self.stands) - 1]

    def ban(self, one, size, other, other_size):
        if self.came:
            return [-4]
        if size > 2 or other_size > 2 or one == other:
            return [-1]
        if max(one, other) >= len(self.stands):
            return [-2]
        if len(self.bans) == 20:
            return [-5]
        self.bans.append((one, size, other, other_size))
        return [len(self.bans)]

    def comes(self, sort, size, many, first, final, stay):
        if not 1 <= stay <= 400 or sort > 3 or not first <= final <= 1000:
            return [-1]
        if len(self.air) == 8 or len(self.came) == 60:
            return [-5]
        if size > 2 or many > 1000:
            return [-1]
        if len(self.there) == 6:
            return [-5]
        number = len(self.came)
        self.came.append((sort, size, many, first, final, stay))
        self.air.append(number)
        self.there.append(number)
        moved = self.put_right()
        return came(number, self.places[number], moved)

    def lands(self):
        if not self.air:
            return [-4]
        order = self.plan()
        if order is None:
            return [-6]
        number = order[0]
        self.landed[number] = self.times(order)[number]
        self.air.remove(number)
        moved = self.put_right()
        return landed(number, self.landed[number], self.places[number], moved)

    def goes(self, aircraft):
        if aircraft >= len(self.came):
            return [-2]
        if aircraft not in self.there:
            return [-4]
        had_landed = int(aircraft not in self.air)
        self.there.remove(aircraft)
        if not had_landed:
            self.air.remove(aircraft)
        return went(had_landed, self.put_right())

    def late(self, aircraft, end):
        if aircraft >= len(self.came):
            return [-2]
        if aircraft not in self.there or aircraft in self.air:
            return [-4]
        if not self.landed[aircraft] + self.taxi < end <= 1440:
            return [-1]
        self.ends[aircraft] = end
        return changed(self.put_right())

    def shut(self, number, truth):
        if truth not in (0, 1):
            return [-1]
        if number >= len(self.stands):
            return [-2]
        self.closed.discard(number)
        if truth:
            self.closed.add(number)
        return changed(self.put_right())


def opening(source):
    """Calls ahead of the first coming, a few of them refused."""
    calls = [begins(source.choice((0, 1, 2, 3, 3)), source.choice((0, 30, 60)), source.choice((0, 0, 3, 40)))]
    for _ in range(source.randrange(10)):
        calls.append(room(source.randrange(4), source.randrange(4), source.choice((1, 2, 5, 9, 9))))
    stands = source.choice((0, 1, 1, 2, 2, 3, 4, 5))
    for _ in range(stands):
        calls.append(stand(source.choice((0, 1, 2, 2)), source.randrange(40)))
    for _ in range(source.randrange(6)):
        calls.append(ban(source.randrange(max(stands, 1)), source.randrange(3), source.randrange(max(stands, 1)),
                         source.randrange(3)))
    return calls


def coming(source, span):
    first = source.randrange(span)
    final = first + source.choice((0, 20, 60, 300))
    return comes(source.randrange(4), source.choice((0, 0, 1, 2)), source.choice((0, 1, 1, 2, 100)), first, final,
                 source.randrange(1, source.choice((4, 12, 60))))


def next_call(source, model, span):
    """A call that is most often taken: it's about one that is there, or a stand that there is."""
    one = source.choice(model.there or [0])
    down = source.choice([other for other in model.there if other not in model.air] or [0])
    end = source.randrange(span + 60)
    number = source.randrange(max(len(model.stands), 1))
    return source.choice((coming(source, span), coming(source, span), coming(source, span), lands(), goes(one),
                          late(down, end), shut(number, 1), shut(number, 0)))


def spoiled(source, call):
    """The call with one of its numbers out of the way, most often beyond what is taken."""
    if len(call) == 1:
        return call
    call = list(call)
    call[source.randrange(1, len(call))] = source.choice((0, 3, 4, 10, 41, 401, 1001, 1441, GREATEST))
    return call


def morning(seed):
    """A morning of up to 80 calls, with the aircraft crowded into few minutes; and what the model answers."""
    source = random.Random(seed)
    span = source.choice((5, 30, 60))
    model = Model()
    calls = opening(source)
    answered = [model.answer(call) for call in calls]
    for _ in range(source.randrange(20, 80 - len(calls) + 1)):
        call = next_call(source, model, span)
        if source.randrange(12) == 0:
            call = spoiled(source, call)
        if source.randrange(80) == 0:
            call = source.choice((begins(2, 9, 1), room(0, 0, 1), stand(2, 1), ban(0, 0, 1, 0)))
        calls.append(call)
        answered.append(model.answer(call))
    return calls, answered


class AgainstTheModel(unittest.TestCase):

    def test_many_mornings(self):
        for seed in range(MORNINGS):
            calls, answered = morning(seed)
            with self.subTest(seed=seed):
                self.assertEqual(answered, ask(calls))

    def test_a_list_handed_in_is_as_long_as_may_be(self):
        # 80 calls of 7 numbers each are 560 numbers.
        source = random.Random(80)
        calls = [coming(source, 30) for _ in range(80)]
        model = Model()
        self.assertEqual(560, len(flat(calls)))
        self.assertEqual([model.answer(call) for call in calls], ask(calls))


class RefusedInAMorning(unittest.TestCase):

    def test_all_is_as_it_was_behind_each_refusal(self):
        for seed in range(60):
            calls, answered = morning(1000 + seed)
            kept = [call for call, answer in zip(calls, answered) if answer[0] >= 0]
            with self.subTest(seed=seed):
                self.assertEqual([answer for answer in ask(calls) if answer[0] >= 0], ask(kept))


class OneMorning(unittest.TestCase):
    """One morning whose answers were worked out by hand."""

    def test_it(self):
        told = (
            (begins(1, 20, 5), [0]),
            (room(0, 1, 4), [0]),
            (stand(2, 3), [0]),
            (stand(0, 1), [1]),
            (ban(0, 2, 1, 0), [1]),
            # Due at 10, there from 15 to 45; the near stand is too small for it.
            (comes(0, 2, 100, 10, 50, 30), came(0, 0)),
            # In the order 1, 0 they end at 11, else at 14. So it is due at 10, and the first one at 11. They meet
            # at 16, and the ban keeps it from the near stand.
            (comes(1, 0, 50, 10, 50, 10), came(1, 2)),
            (lands(), landed(1, 10, 2)),
            (lands(), landed(0, 11, 0)),
            (lands(), [-4]),
            # The first was there from 16 on, and goes at 20 in the place of 46.
            (late(0, 16), [-1]),
            (late(0, 20), changed()),
            # There from 20 on, so they don't meet till the first one is later by a minute.
            (comes(0, 1, 10, 15, 15, 100), came(2, 0)),
            (late(0, 21), changed([2])),
            (shut(0, 1), changed([0])),
            (goes(1), went(1)),
            (goes(1), [-4]),
            (shut(0, 0), changed()),
            (goes(2), went(0)),
            (goes(3), [-2]),
            (comes(0, 0, 1, 12, 12, 8), came(3, 1)),
            (lands(), landed(3, 12, 1)),
        )
        self.assertEqual([answer for _, answer in told], ask([call for call, _ in told]))

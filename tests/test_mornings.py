"""Whole mornings, each answer held against a slow model that goes through all orders and all settings."""

import functools
import itertools
import random
import unittest

from tests.helper import (GREATEST, ask, ban, begins, came, changed, comes, flat, found, free, goes, held, landed,
                          lands, late, may, moved, moves, plan, planned, room, shut, stand, state, steps, stood, there,
                          walked, went, where, why)

MORNINGS = 300


class Model:
    """The document's words, with no care for time: every order and every setting is looked at."""

    def __init__(self, shift=1, far=0, taxi=0):
        self.shift, self.far, self.taxi = shift, far, taxi
        self.rooms = {}
        self.stands = []
        self.closed = set()
        self.bans = []
        self.came = []
        self.landed = {}
        self.air = []
        self.there = []
        self.ends = {}
        self.places = {}
        self.moves = []
        self.known = {}

    # The air.

    def times(self, order):
        times = dict(self.landed)
        for one in order:
            sort, _, _, first, _, _ = self.came[one]
            times[one] = max([first] + [time + self.rooms.get((self.came[other][0], sort), 1)
                                        for other, time in times.items()])
        return times

    def allowed(self, order):
        times = self.times(order)
        for place, one in enumerate(order, start=len(self.landed)):
            rank = sum(other < one for other in list(self.landed) + self.air)
            if times[one] > self.came[one][4] or abs(place - rank) > self.shift:
                return False
        return True

    def orders(self):
        """All that are allowed; the same ones as long as the same ones wait and have landed."""
        key = (tuple(self.air), tuple(self.landed.items()))
        if key not in self.known:
            self.known[key] = [order for order in itertools.permutations(self.air) if self.allowed(order)]
        return self.known[key]

    def best(self):
        best = None
        for order in self.orders():
            times = self.times(order)
            end = times[order[-1]] if order else 0
            key = (end, sum(times[one] - self.came[one][3] for one in order), order)
            if best is None or key < best:
                best = key
        return None if best is None else best[2]

    # The gates.

    def spans(self):
        order = self.best()
        due = {one: self.came[one][3] for one in self.air} if order is None else self.times(order)
        due.update(self.landed)
        begin = {one: due[one] + self.taxi for one in self.there}
        return {one: (begin[one], self.ends.get(one, begin[one] + self.came[one][5])) for one in self.there}

    def clash(self, spans, one, place, other, other_place):
        if len(self.stands) in (place, other_place):
            return False
        if max(spans[one][0], spans[other][0]) >= min(spans[one][1], spans[other][1]):
            return False
        sides = {(place, self.came[one][1]), (other_place, self.came[other][1])}
        return place == other_place or any({said[:2], said[2:]} == sides for said in self.bans)

    def walked(self, setting):
        walks = [far for _, far in self.stands] + [self.far]
        return sum(self.came[one][2] * walks[place] for one, place in setting)

    def settings(self):
        spans = self.spans()
        choices = []
        for one in self.there:
            fitting = [place for place, (size, _) in enumerate(self.stands)
                       if place not in self.closed and self.came[one][1] <= size]
            choices.append(fitting + [len(self.stands)])
        clashing = {(one, place, other, other_place)
                    for at, one in enumerate(self.there) for behind, other in enumerate(self.there[at + 1:], at + 1)
                    for place in choices[at] for other_place in choices[behind]
                    if self.clash(spans, one, place, other, other_place)}
        for places in itertools.product(*choices):
            setting = list(zip(self.there, places))
            if not any((*left, *right) in clashing for left, right in itertools.combinations(setting, 2)):
                yield setting

    def put_right(self):
        def key(setting):
            changes = sum(self.places.get(one, place) != place for one, place in setting)
            return changes, self.walked(setting), [place for _, place in setting]

        setting = dict(min(self.settings(), key=key))
        moved_now = [one for one in self.there if self.places.get(one, setting[one]) != setting[one]]
        for one in moved_now:
            self.moves[one] += 1
        self.places = setting
        return moved_now

    # The calls.

    def answer(self, call):
        return (self.begins, self.room, self.stand, self.ban, self.comes, self.lands, self.goes, self.late,
                self.shut, self.plan, self.may, self.why, self.where, self.steps, self.moved, self.free,
                self.state)[call[0]](*call[1:])

    def begins(self, shift, far, taxi):
        if shift > 3 or far > 1000 or taxi > 40:
            return [-1]
        Model.__init__(self, shift, far, taxi)
        return [0]

    def room(self, one, other, much):
        if one > 3 or other > 3 or not 1 <= much <= 9:
            return [-1]
        if self.came:
            return [-4]
        self.rooms[one, other] = much
        return [0]

    def stand(self, size, far):
        if size > 2 or far > 1000:
            return [-1]
        if self.came:
            return [-4]
        if len(self.stands) == 4:
            return [-5]
        self.stands.append((size, far))
        return [len(self.stands) - 1]

    def ban(self, one, size, other, other_size):
        if self.came:
            return [-4]
        if size > 2 or other_size > 2 or one == other:
            return [-1]
        if max(one, other) >= len(self.stands):
            return [-2]
        if len(self.bans) == 20:
            return [-5]
        self.bans.append((one, size, other, other_size))
        return [len(self.bans)]

    def comes(self, sort, size, many, first, final, stay):
        if not 1 <= stay <= 400 or sort > 3 or not first <= final <= 1000:
            return [-1]
        if len(self.air) == 8 or len(self.came) == 60:
            return [-5]
        if size > 2 or many > 1000:
            return [-1]
        if len(self.there) == 6:
            return [-5]
        number = len(self.came)
        self.came.append((sort, size, many, first, final, stay))
        self.moves.append(0)
        self.air.append(number)
        self.there.append(number)
        moved_now = self.put_right()
        return came(number, self.places[number], moved_now)

    def lands(self):
        if not self.air:
            return [-4]
        order = self.best()
        if order is None:
            return [-6]
        number = order[0]
        self.landed[number] = self.times(order)[number]
        self.air.remove(number)
        moved_now = self.put_right()
        return landed(number, self.landed[number], self.places[number], moved_now)

    def goes(self, aircraft):
        if aircraft >= len(self.came):
            return [-2]
        if aircraft not in self.there:
            return [-4]
        had_landed = int(aircraft not in self.air)
        self.there.remove(aircraft)
        if not had_landed:
            self.air.remove(aircraft)
        return went(had_landed, self.put_right())

    def late(self, aircraft, end):
        if aircraft >= len(self.came):
            return [-2]
        if aircraft not in self.there or aircraft in self.air:
            return [-4]
        if not self.landed[aircraft] + self.taxi < end <= 1440:
            return [-1]
        self.ends[aircraft] = end
        return changed(self.put_right())

    def shut(self, number, truth):
        if truth not in (0, 1):
            return [-1]
        if number >= len(self.stands):
            return [-2]
        self.closed.discard(number)
        if truth:
            self.closed.add(number)
        return changed(self.put_right())

    def plan(self):
        order = self.best()
        if order is None:
            return [-6]
        times = self.times(order)
        return planned(times[order[-1]] if order else 0, *((one, times[one]) for one in order))

    def may(self, aircraft, time):
        if aircraft >= len(self.came):
            return [-2]
        if aircraft not in self.air:
            return [-4]
        return [int(any(self.times(order)[aircraft] <= time for order in self.orders()))]

    def why(self, aircraft):
        if aircraft >= len(self.came):
            return [-2]
        if aircraft not in self.air:
            return [-4]
        order = self.best()
        if order is None:
            return [-6]
        # Who landed, as it did, and then the order: so they come in this dict.
        times = self.times(order)
        sort, _, _, first, _, _ = self.came[aircraft]
        if times[aircraft] == first:
            return held(first)
        for other, time in times.items():
            if time + self.rooms.get((self.came[other][0], sort), 1) == times[aircraft]:
                return held(times[aircraft], other)
        raise AssertionError("nobody holds it up")

    def where(self, aircraft):
        if aircraft >= len(self.came):
            return [-2]
        if aircraft not in self.there:
            return [2]
        return found(int(aircraft in self.landed), self.places[aircraft], *self.spans()[aircraft])

    def steps(self):
        return walked(self.walked(self.places.items()), min(self.walked(setting) for setting in self.settings()))

    def moved(self):
        return moves(*self.moves)

    def free(self, number, begin, end):
        if end <= begin or end > 1440:
            return [-1]
        if number >= len(self.stands):
            return [-2]
        minutes = set(range(begin, end))
        return there(*(one for one, span in self.spans().items()
                       if self.places[one] == number and minutes & set(range(*span))))

    def state(self):
        return stood(len(self.came), (self.shift, self.far, self.taxi), self.landed.items(), self.air,
                     [(one, *span) for one, span in self.spans().items()])


def opening(source):
    """Calls ahead of the first coming, a few of them refused."""
    calls = [begins(source.choice((0, 1, 2, 3, 3)), source.choice((0, 30, 60)), source.choice((0, 0, 3, 40)))]
    for _ in range(source.randrange(10)):
        calls.append(room(source.randrange(4), source.randrange(4), source.choice((1, 2, 5, 9, 9))))
    stands = source.choice((0, 1, 1, 2, 2, 3, 4, 5))
    for _ in range(stands):
        calls.append(stand(source.choice((0, 1, 2, 2)), source.randrange(40)))
    for _ in range(source.randrange(6)):
        calls.append(ban(source.randrange(max(stands, 1)), source.randrange(3), source.randrange(max(stands, 1)),
                         source.randrange(3)))
    return calls


def coming(source, span):
    first = source.randrange(span)
    final = first + source.choice((0, 20, 60, 300))
    return comes(source.randrange(4), source.choice((0, 0, 1, 2)), source.choice((0, 1, 1, 2, 100)), first, final,
                 source.randrange(1, source.choice((4, 12, 60))))


def next_call(source, model, span):
    """A call that is most often taken: it's about one that is there, or a stand that there is."""
    one = source.choice(model.there or [0])
    down = source.choice([other for other in model.there if other not in model.air] or [0])
    end = source.randrange(span + 60)
    number = source.randrange(max(len(model.stands), 1))
    return source.choice((coming(source, span), coming(source, span), coming(source, span), lands(), goes(one),
                          late(down, end), shut(number, 1), shut(number, 0)))


def next_query(source, model, span):
    """A question, most often about one that is as the question wants it."""
    one = source.choice(model.air or [0])
    other = source.randrange(len(model.came) + 1)
    begin = source.randrange(span + 40)
    number = source.randrange(max(len(model.stands), 1))
    return source.choice((plan(), may(one, source.randrange(span + 20)), may(other, source.randrange(span + 20)),
                          why(one), why(one), why(other), where(other), where(other), steps(), moved(),
                          free(number, begin, begin + source.choice((1, 5, 60, 1300))), free(number, 0, 1440), state()))


def spoiled(source, call):
    """The call with one of its numbers out of the way, most often beyond what is taken."""
    if len(call) == 1:
        return call
    call = list(call)
    call[source.randrange(1, len(call))] = source.choice((0, 3, 4, 10, 41, 401, 1001, 1441, GREATEST))
    return call


@functools.cache
def morning(seed):
    """A morning of up to 80 calls, with the aircraft crowded into few minutes; and what the model answers."""
    source = random.Random(seed)
    span = source.choice((5, 30, 60))
    model = Model()
    calls = opening(source)
    answered = [model.answer(call) for call in calls]
    for _ in range(source.randrange(20, 80 - len(calls) + 1)):
        call = source.choice((next_call, next_call, next_query))(source, model, span)
        if source.randrange(60) == 0:
            call = source.choice((begins(2, 9, 1), room(0, 0, 1), stand(2, 1), ban(0, 0, 1, 0)))
        if source.randrange(12) == 0:
            call = spoiled(source, call)
        calls.append(call)
        answered.append(model.answer(call))
    return calls, answered


class AgainstTheModel(unittest.TestCase):

    def test_many_mornings(self):
        for seed in range(MORNINGS):
            calls, answered = morning(seed)
            with self.subTest(seed=seed):
                self.assertEqual(answered, ask(calls))

    def test_a_list_handed_in_is_as_long_as_may_be(self):
        # 80 calls of 7 numbers each are 560 numbers.
        source = random.Random(80)
        calls = [coming(source, 30) for _ in range(80)]
        model = Model()
        self.assertEqual(560, len(flat(calls)))
        self.assertEqual([model.answer(call) for call in calls], ask(calls))


    def test_the_mornings_have_each_call_answered_and_each_refusal(self):
        told = set()
        for seed in range(MORNINGS):
            told.update((call[0], min(answer[0], 0)) for call, answer in zip(*morning(seed)))
        self.assertEqual(set(range(17)), {call for call, refusal in told if refusal == 0})
        refused = {0: (-1,), 1: (-1, -4), 2: (-1, -4, -5), 3: (-1, -2, -4), 4: (-1, -5), 5: (-4, -6), 6: (-2, -4),
                   7: (-1, -2, -4), 8: (-1, -2), 9: (-6,), 10: (-2, -4), 11: (-2, -4, -6), 12: (-2,), 15: (-1, -2)}
        self.assertEqual({(call, refusal) for call, refusals in refused.items() for refusal in refusals},
                         {(call, refusal) for call, refusal in told if refusal < 0})


class AskedInAMorning(unittest.TestCase):

    def test_no_question_changes_anything(self):
        for seed in range(60):
            calls, answered = morning(2000 + seed)
            kept = [call for call in calls if call[0] < 9]
            with self.subTest(seed=seed):
                self.assertEqual([answer for call, answer in zip(calls, answered) if call[0] < 9], ask(kept))

    def test_asked_twice_the_answer_is_the_same(self):
        for seed in range(30):
            calls, answered = morning(2000 + seed)
            twice = [call for call in calls for _ in range(2 if call[0] >= 9 else 1)]
            expected = [answer for call, answer in zip(calls, answered) for _ in range(2 if call[0] >= 9 else 1)]
            with self.subTest(seed=seed):
                self.assertEqual(expected, ask(twice))


class BegunAgain(unittest.TestCase):

    def test_all_is_new(self):
        for seed in range(30):
            before = morning(3000 + seed)[0][:40]
            calls, answered = morning(4000 + seed)
            with self.subTest(seed=seed):
                self.assertEqual(answered[:40], ask(before + calls[:40])[len(before):])


class AnyCallFirst(unittest.TestCase):

    def test_each_of_the_seventeen(self):
        firsts = (
            (begins(), [0]),
            (room(0, 0, 1), [0]),
            (stand(), [0]),
            (ban(0, 0, 1, 0), [-2]),
            (comes(), came(0, 0)),
            (lands(), [-4]),
            (goes(0), [-2]),
            (late(0, 1), [-2]),
            (shut(0), [-2]),
            (plan(), planned(0)),
            (may(0, 0), [-2]),
            (why(0), [-2]),
            (where(0), [-2]),
            (steps(), walked(0, 0)),
            (moved(), moves()),
            (free(0, 0, 1), [-2]),
            (state(), stood(0)),
        )
        self.assertEqual(list(range(17)), [call[0] for call, _ in firsts])
        for call, answer in firsts:
            for other, _ in firsts:
                model = Model()
                expected = [model.answer(call), model.answer(other)]
                self.assertEqual(answer, expected[0])
                self.assertEqual(expected, ask([call, other]))


class RefusedInAMorning(unittest.TestCase):

    def test_all_is_as_it_was_behind_each_refusal(self):
        for seed in range(60):
            calls, answered = morning(1000 + seed)
            kept = [call for call, answer in zip(calls, answered) if answer[0] >= 0]
            with self.subTest(seed=seed):
                self.assertEqual([answer for answer in ask(calls) if answer[0] >= 0], ask(kept))


class OneMorning(unittest.TestCase):
    """One morning whose answers were worked out by hand."""

    def test_it(self):
        told = (
            (begins(1, 20, 5), [0]),
            (room(0, 1, 4), [0]),
            (stand(2, 3), [0]),
            (stand(0, 1), [1]),
            (ban(0, 2, 1, 0), [1]),
            # Due at 10, there from 15 to 45; the near stand is too small for it.
            (comes(0, 2, 100, 10, 50, 30), came(0, 0)),
            (where(0), found(0, 0, 15, 45)),
            (steps(), walked(300, 300)),
            # In the order 1, 0 they end at 11, else at 14. So it is due at 10, and the first one at 11. They meet
            # at 16, and the ban keeps it from the near stand.
            (comes(1, 0, 50, 10, 50, 10), came(1, 2)),
            (plan(), planned(11, (1, 10), (0, 11))),
            (may(0, 10), [1]),
            (may(0, 9), [0]),
            (why(0), held(11, 1)),
            (why(1), held(10)),
            (where(0), found(0, 0, 16, 46)),
            (where(1), found(0, 2, 15, 25)),
            (steps(), walked(1300, 1300)),
            (lands(), landed(1, 10, 2)),
            (lands(), landed(0, 11, 0)),
            (lands(), [-4]),
            (plan(), planned(0)),
            (why(0), [-4]),
            (state(), stood(2, (1, 20, 5), ((1, 10), (0, 11)), (), ((0, 16, 46), (1, 15, 25)))),
            # The first was there from 16 on, and goes at 20 in the place of 46.
            (late(0, 16), [-1]),
            (late(0, 20), changed()),
            # There from 20 on, so they don't meet till the first one is later by a minute.
            (comes(0, 1, 10, 15, 15, 100), came(2, 0)),
            (free(0, 0, 1440), there(0, 2)),
            (free(0, 19, 20), there(0)),
            (free(0, 20, 21), there(2)),
            (moved(), moves(0, 0, 0)),
            (late(0, 21), changed([2])),
            (moved(), moves(0, 0, 1)),
            (shut(0, 1), changed([0])),
            (moved(), moves(1, 0, 1)),
            # All are on the field; the small one might be at the near stand.
            (steps(), walked(3200, 2250)),
            (goes(1), went(1)),
            (goes(1), [-4]),
            (where(1), [2]),
            (moved(), moves(1, 0, 1)),
            (shut(0, 0), changed()),
            (goes(2), went(0)),
            (goes(3), [-2]),
            (comes(0, 0, 1, 12, 12, 8), came(3, 1)),
            (lands(), landed(3, 12, 1)),
            (state(), stood(4, (1, 20, 5), ((1, 10), (0, 11), (3, 12)), (), ((0, 16, 21), (3, 17, 25)))),
        )
        self.assertEqual([answer for _, answer in told], ask([call for call, _ in told]))

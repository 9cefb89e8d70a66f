"""One airport: the calls, what each answers, and what is put right behind it."""

from airmornings.air import Air, CLASSES, Craft, end_of, landing_of
from airmornings.gates import Flight, Gates, Stand

WRONG = -1
NO_SUCH = -2
NOT_NOW = -4
FULL = -5
NO_PLAN = -6

SIZES = 3
MOST_SHIFT = 3
MOST_TAXI = 40
MOST_ROOM = 9
MOST_FAR = 1000
MOST_MANY = 1000
MOST_STAY = 400
LAST_LANDING = 1000
LAST_MINUTE = 1440

MOST_STANDS = 4
MOST_BANS = 20
MOST_IN_AIR = 8
MOST_COMING = 60
MOST_FLIGHTS = 6

IN_AIR = 0
LANDED = 1
WENT = 2


def listed(numbers):
    return [len(numbers)] + numbers


def numbers_and_times(landings):
    told = []
    for landing in landings:
        told.extend([landing.craft.number, landing.time])
    return told


class Airport:

    def __init__(self):
        self.renew(1, 0, 0)

    def renew(self, shift, far, taxi):
        self.taxi = taxi
        self.air = Air(shift)
        self.gates = Gates(far)
        # How long each stays, by its number: its length is how many have come.
        self.stays = []
        # How often each was moved, by its number, also when it went.
        self.moves = []

    def came(self):
        return len(self.stays)

    def has_stand(self, stand):
        return stand < len(self.gates.stands)

    def stage(self, aircraft):
        if self.gates.flight_of(aircraft) is None:
            return WENT
        return IN_AIR if self.air.waits(aircraft) else LANDED

    def begins(self, shift, far, taxi):
        if shift > MOST_SHIFT or far > MOST_FAR or taxi > MOST_TAXI:
            return [WRONG]
        self.renew(shift, far, taxi)
        return [0]

    def room(self, one, other, much):
        if one >= CLASSES or other >= CLASSES or much < 1 or much > MOST_ROOM:
            return [WRONG]
        if self.came() > 0:
            return [NOT_NOW]
        self.air.rooms[one][other] = much
        return [0]

    def stand(self, size, far):
        if size >= SIZES or far > MOST_FAR:
            return [WRONG]
        if self.came() > 0:
            return [NOT_NOW]
        if len(self.gates.stands) >= MOST_STANDS:
            return [FULL]
        self.gates.stands.append(Stand(size, far))
        return [len(self.gates.stands) - 1]

    def ban(self, one, size, other, other_size):
        if self.came() > 0:
            return [NOT_NOW]
        if size >= SIZES or other_size >= SIZES or one == other:
            return [WRONG]
        if not self.has_stand(one) or not self.has_stand(other):
            return [NO_SUCH]
        if len(self.gates.bans) >= MOST_BANS:
            return [FULL]
        self.gates.bans.append((one, size, other, other_size))
        return [len(self.gates.bans)]

    # The air refuses before the gates do, so there are two rounds of wrong numbers and of too many.
    def coming_refused(self, craft, flight, stay):
        if stay < 1 or stay > MOST_STAY:
            return WRONG
        if craft.kind >= CLASSES or craft.last < craft.first or craft.last > LAST_LANDING:
            return WRONG
        if len(self.air.waiting) >= MOST_IN_AIR or self.came() >= MOST_COMING:
            return FULL
        if flight.size >= SIZES or flight.many > MOST_MANY:
            return WRONG
        if len(self.gates.flights) >= MOST_FLIGHTS:
            return FULL
        return 0

    def comes(self, sort, size, many, first, last, stay):
        number = self.came()
        craft = Craft(number, sort, first, last)
        flight = Flight(number, size, many)
        refusal = self.coming_refused(craft, flight, stay)
        if refusal < 0:
            return [refusal]
        self.stays.append(stay)
        self.moves.append(0)
        self.air.waiting.append(craft)
        self.gates.flights.append(flight)
        moved = self.put_right()
        return [number] + listed([flight.place]) + listed(moved)

    def lands(self):
        if len(self.air.waiting) == 0:
            return [NOT_NOW]
        planned = self.air.plan()
        if planned is None:
            return [NO_PLAN]
        landing = planned[0]
        self.air.land(landing)
        self.tell_times(landing)
        moved = self.put_right()
        number = landing.craft.number
        return [number] + listed([landing.time, self.gates.flight_of(number).place]) + listed(moved)

    def goes(self, aircraft):
        if aircraft >= self.came():
            return [NO_SUCH]
        stage = self.stage(aircraft)
        if stage == WENT:
            return [NOT_NOW]
        self.air.turn_away(aircraft)
        self.gates.send_off(aircraft)
        return [stage] + listed(self.put_right())

    def late(self, aircraft, end):
        if aircraft >= self.came():
            return [NO_SUCH]
        if self.stage(aircraft) != LANDED:
            return [NOT_NOW]
        flight = self.gates.flight_of(aircraft)
        if end <= flight.begin or end > LAST_MINUTE:
            return [WRONG]
        flight.end = end
        moved = self.put_right()
        return [len(moved)] + listed(moved)

    def shut(self, stand, truth):
        if truth > 1:
            return [WRONG]
        if not self.has_stand(stand):
            return [NO_SUCH]
        told = self.gates.stands[stand]
        told.closed = truth == 1
        moved = self.put_right()
        return [len(moved)] + listed(moved)

    def tell_times(self, landing):
        flight = self.gates.flight_of(landing.craft.number)
        flight.begin = landing.time + self.taxi
        flight.end = flight.begin + self.stays[flight.number]

    # Only those in the air have their times told anew: who has landed may have been told to go later.
    def put_right(self):
        for landing in self.air.expected():
            self.tell_times(landing)
        moved = self.gates.put_right()
        for number in moved:
            self.moves[number] += 1
        return moved

    def plan(self):
        planned = self.air.plan()
        if planned is None:
            return [NO_PLAN]
        return [end_of(planned)] + listed(numbers_and_times(planned))

    def not_in_air(self, aircraft):
        if aircraft >= self.came():
            return NO_SUCH
        if self.stage(aircraft) != IN_AIR:
            return NOT_NOW
        return 0

    def may(self, aircraft, time):
        refusal = self.not_in_air(aircraft)
        if refusal < 0:
            return [refusal]
        return [1 if self.air.may_land(aircraft, time) else 0]

    def why(self, aircraft):
        refusal = self.not_in_air(aircraft)
        if refusal < 0:
            return [refusal]
        planned = self.air.plan()
        if planned is None:
            return [NO_PLAN]
        landing = landing_of(planned, aircraft)
        return [landing.time] + listed(self.air.held_up_by(landing, planned))

    def where(self, aircraft):
        if aircraft >= self.came():
            return [NO_SUCH]
        stage = self.stage(aircraft)
        if stage == WENT:
            return [WENT]
        flight = self.gates.flight_of(aircraft)
        return [stage] + listed([flight.place, flight.begin, flight.end])

    def steps(self):
        return [self.gates.steps()] + listed([self.gates.fewest_steps()])

    def moved(self):
        return [sum(self.moves)] + listed(self.moves)

    def free(self, stand, begin, end):
        if end <= begin or end > LAST_MINUTE:
            return [WRONG]
        if not self.has_stand(stand):
            return [NO_SUCH]
        there = self.gates.at_stand(stand, begin, end)
        return [len(there)] + listed(there)

    def state(self):
        begun = [self.air.shift, self.gates.far, self.taxi]
        landed = numbers_and_times(self.air.landed)
        waiting = [craft.number for craft in self.air.waiting]
        return [self.came()] + listed(begun) + listed(landed) + listed(waiting) + listed(self.gates.times())

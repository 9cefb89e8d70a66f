"""The gates: stands, bans, flights, and settings put right."""


class Stand:

    def __init__(self, size, far):
        self.size = size
        self.far = far
        self.closed = False


class Flight:

    # A flight that has just come is at no place yet, so setting it for the first time is no change.
    def __init__(self, number, size, many):
        self.number = number
        self.size = size
        self.many = many
        self.begin = 0
        self.end = 0
        self.place = None

    def is_there(self, begin, end):
        return self.begin < end and begin < self.end


def meet(one, other):
    return one.is_there(other.begin, other.end)


def change(flight, place):
    if flight.place is None or flight.place == place:
        return 0
    return 1


class Gates:

    def __init__(self, far):
        self.far = far
        self.stands = []
        self.bans = []
        self.flights = []

    def field(self):
        return len(self.stands)

    def flight_of(self, number):
        for flight in self.flights:
            if flight.number == number:
                return flight
        return None

    def send_off(self, number):
        self.flights = [flight for flight in self.flights if flight.number != number]

    def takes(self, place, flight):
        if place == self.field():
            return True
        stand = self.stands[place]
        return not stand.closed and flight.size <= stand.size

    def walk(self, place, flight):
        if place == self.field():
            return flight.many * self.far
        return flight.many * self.stands[place].far

    # A ban is told from one of its two sides, but holds from either.
    def banned(self, one, place, other, other_place):
        told = (place, one.size, other_place, other.size)
        turned = (other_place, other.size, place, one.size)
        return told in self.bans or turned in self.bans

    def clash(self, one, place, other, other_place):
        if place == self.field() or other_place == self.field() or not meet(one, other):
            return False
        return place == other_place or self.banned(one, place, other, other_place)

    def fits(self, flight, place, places):
        if not self.takes(place, flight):
            return False
        for other, other_place in zip(self.flights, places):
            if self.clash(flight, place, other, other_place):
                return False
        return True

    # Of as near ones the lesser is before the greater.
    def nearest_first(self, flight):
        return sorted(range(self.field() + 1), key=lambda place: self.walk(place, flight))

    # What these flights walk at the least, each as if it were alone.
    def least_walk(self, flights):
        walked = 0
        for flight in flights:
            walked += min([self.walk(place, flight) for place in range(self.field() + 1) if self.takes(place, flight)])
        return walked

    # The flights behind those that the places are told for, set with the fewest steps and no more changes
    # than are spare: a pair of their steps and their places, or None. Such pairs compare by their steps, and
    # if these are as few by which setting is first.
    def best_behind(self, places, spare):
        if len(places) == len(self.flights):
            return (0, [])
        flight = self.flights[len(places)]
        least = self.least_walk(self.flights[len(places) + 1:])
        best = None
        for place in self.nearest_first(flight):
            walked = self.walk(place, flight)
            # Nothing that begins so can be better, and to go through it all would take too long.
            if best is not None and (walked + least, [place]) > best:
                continue
            left = spare - change(flight, place)
            if left >= 0 and self.fits(flight, place, places):
                behind = self.best_behind(places + [place], left)
                if behind is not None:
                    found = (walked + behind[0], [place] + behind[1])
                    if best is None or found < best:
                        best = found
        return best

    def steps(self):
        return sum([self.walk(flight.place, flight) for flight in self.flights])

    def fewest_steps(self):
        best = self.best_behind([], len(self.flights))
        return best[0]

    # All on the field is good, so there is one at the latest when each flight may change.
    def fewest_changes(self):
        spare = 0
        best = self.best_behind([], spare)
        while best is None:
            spare += 1
            best = self.best_behind([], spare)
        return best[1]

    def put_right(self):
        moved = []
        for flight, place in zip(self.flights, self.fewest_changes()):
            if change(flight, place) == 1:
                moved.append(flight.number)
            flight.place = place
        return moved

    def at_stand(self, stand, begin, end):
        there = [flight for flight in self.flights if flight.is_there(begin, end)]
        return [flight.number for flight in there if flight.place == stand]

    def times(self):
        told = []
        for flight in self.flights:
            told.extend([flight.number, flight.begin, flight.end])
        return told

"""The gates: stands, bans, flights, and settings put right."""


class Stand:

    def __init__(self, size, far):
        self.size = size
        self.far = far
        self.closed = False


class Flight:

    # A flight that has just come is at no place yet, so setting it for the first time is no change.
    def __init__(self, number, size, many):
        self.number = number
        self.size = size
        self.many = many
        self.begin = 0
        self.end = 0
        self.place = None


def meet(one, other):
    return one.begin < other.end and other.begin < one.end


def change(flight, place):
    if flight.place is None or flight.place == place:
        return 0
    return 1


class Gates:

    def __init__(self, far):
        self.far = far
        self.stands = []
        self.bans = []
        self.flights = []

    def field(self):
        return len(self.stands)

    def flight_of(self, number):
        for flight in self.flights:
            if flight.number == number:
                return flight
        return None

    def send_off(self, number):
        self.flights = [flight for flight in self.flights if flight.number != number]

    def takes(self, place, flight):
        if place == self.field():
            return True
        stand = self.stands[place]
        return not stand.closed and flight.size <= stand.size

    def walk(self, place, flight):
        if place == self.field():
            return flight.many * self.far
        return flight.many * self.stands[place].far

    # A ban is told from one of its two sides, but holds from either.
    def banned(self, one, place, other, other_place):
        told = (place, one.size, other_place, other.size)
        turned = (other_place, other.size, place, one.size)
        return told in self.bans or turned in self.bans

    def clash(self, one, place, other, other_place):
        if place == self.field() or other_place == self.field() or not meet(one, other):
            return False
        return place == other_place or self.banned(one, place, other, other_place)

    def fits(self, flight, place, places):
        if not self.takes(place, flight):
            return False
        for other, other_place in zip(self.flights, places):
            if self.clash(flight, place, other, other_place):
                return False
        return True

    # The flights behind those that the places are told for, set with the fewest steps and no more changes
    # than are spare: a pair of their steps and their places, or None. Places are tried by rising numbers and
    # only fewer steps take another's place, so of settings with as few steps the first stays.
    def best_behind(self, places, spare):
        if len(places) == len(self.flights):
            return (0, [])
        flight = self.flights[len(places)]
        best = None
        for place in range(self.field() + 1):
            left = spare - change(flight, place)
            if left >= 0 and self.fits(flight, place, places):
                behind = self.best_behind(places + [place], left)
                if behind is not None:
                    walked = self.walk(place, flight) + behind[0]
                    if best is None or walked < best[0]:
                        best = (walked, [place] + behind[1])
        return best

    # All on the field is good, so there is one at the latest when each flight may change.
    def fewest_changes(self):
        spare = 0
        best = self.best_behind([], spare)
        while best is None:
            spare += 1
            best = self.best_behind([], spare)
        return best[1]

    def put_right(self):
        moved = []
        for flight, place in zip(self.flights, self.fewest_changes()):
            if change(flight, place) == 1:
                moved.append(flight.number)
            flight.place = place
        return moved

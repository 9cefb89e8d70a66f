"""The air: who waits, who has landed, and the plan by which those that wait will land."""

CLASSES = 4


class Craft:

    def __init__(self, number, kind, first, last):
        self.number = number
        self.kind = kind
        self.first = first
        self.last = last


class Landing:

    def __init__(self, craft, time):
        self.craft = craft
        self.time = time


def end_of(order):
    return order[len(order) - 1].time


def waiting_of(order):
    return sum([landing.time - landing.craft.first for landing in order])


def is_better(order, best):
    if best is None:
        return True
    if end_of(order) != end_of(best):
        return end_of(order) < end_of(best)
    return waiting_of(order) < waiting_of(best)


def without(crafts, number):
    return [craft for craft in crafts if craft.number != number]


class Air:

    def __init__(self, shift):
        self.shift = shift
        self.rooms = [[1] * CLASSES for kind in range(CLASSES)]
        # Who landed stays here for good: it counts for room, place and rank when its flight has long gone.
        self.landed = []
        self.waiting = []

    def waits(self, number):
        return any([craft.number == number for craft in self.waiting])

    def land(self, landing):
        self.waiting = without(self.waiting, landing.craft.number)
        self.landed.append(landing)

    def turn_away(self, number):
        self.waiting = without(self.waiting, number)

    def rank(self, craft):
        numbers = [landing.craft.number for landing in self.landed] + [other.number for other in self.waiting]
        return len([number for number in numbers if number < craft.number])

    # The room differs from class to class, so somebody far ahead may hold one up longer than the one just ahead.
    def soonest(self, craft, ahead):
        time = craft.first
        for landing in ahead:
            time = max(time, landing.time + self.rooms[landing.craft.kind][craft.kind])
        return time

    # Ahead are those that landed and then those of the order, so how many they are is the next one's place.
    def allowed_next(self, ahead, left):
        landings = []
        for craft in left:
            if abs(len(ahead) - self.rank(craft)) <= self.shift:
                time = self.soonest(craft, ahead)
                if time <= craft.last:
                    landings.append(Landing(craft, time))
        return landings

    # Those left are tried by rising numbers and only a better order takes another's place, so of orders
    # that are as good the one with the least number where they first differ stays.
    def best_order(self, ahead, left):
        if len(left) == 0:
            return []
        best = None
        for landing in self.allowed_next(ahead, left):
            behind = self.best_order(ahead + [landing], without(left, landing.craft.number))
            if behind is not None and is_better([landing] + behind, best):
                best = [landing] + behind
        return best

    # None says that no order is allowed; of nobody the plan is an empty list.
    def plan(self):
        return self.best_order(self.landed, self.waiting)

    def expected(self):
        planned = self.plan()
        if planned is None:
            return [Landing(craft, craft.first) for craft in self.waiting]
        return planned

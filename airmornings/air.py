"""The air: who waits, who has landed, and the plan by which those that wait will land."""

CLASSES = 4


class Craft:

    def __init__(self, number, kind, first, last):
        self.number = number
        self.kind = kind
        self.first = first
        self.last = last


class Landing:

    def __init__(self, craft, time):
        self.craft = craft
        self.time = time


def end_of(order):
    if len(order) == 0:
        return 0
    return order[len(order) - 1].time


def waiting_of(order):
    return sum([landing.time - landing.craft.first for landing in order])


def is_better(order, best):
    if best is None:
        return True
    if end_of(order) != end_of(best):
        return end_of(order) < end_of(best)
    return waiting_of(order) < waiting_of(best)


def landing_of(order, number):
    for landing in order:
        if landing.craft.number == number:
            return landing
    return None


def without(crafts, number):
    return [craft for craft in crafts if craft.number != number]


class Air:

    def __init__(self, shift):
        self.shift = shift
        self.rooms = [[1] * CLASSES for kind in range(CLASSES)]
        # Who landed stays here for good: it counts for room, place and rank when its flight has long gone.
        self.landed = []
        self.waiting = []

    def waits(self, number):
        return any([craft.number == number for craft in self.waiting])

    def land(self, landing):
        self.waiting = without(self.waiting, landing.craft.number)
        self.landed.append(landing)

    def turn_away(self, number):
        self.waiting = without(self.waiting, number)

    def rank(self, craft):
        numbers = [landing.craft.number for landing in self.landed] + [other.number for other in self.waiting]
        return len([number for number in numbers if number < craft.number])

    def soonest_behind(self, landing, craft):
        return landing.time + self.rooms[landing.craft.kind][craft.kind]

    # The room differs from class to class, so somebody far ahead may hold one up longer than the one just ahead.
    def soonest(self, craft, ahead):
        return max([craft.first] + [self.soonest_behind(landing, craft) for landing in ahead])

    # Ahead are those that landed and then those of the order, so how many they are is the next one's place.
    def allowed_next(self, ahead, left):
        landings = []
        for craft in left:
            if abs(len(ahead) - self.rank(craft)) <= self.shift:
                time = self.soonest(craft, ahead)
                if time <= craft.last:
                    landings.append(Landing(craft, time))
        return landings

    # Those left are tried by rising numbers, so an order stands before all that have a greater number than it
    # where they first differ.
    def orders_behind(self, ahead, left):
        if len(left) == 0:
            return [[]]
        orders = []
        for landing in self.allowed_next(ahead, left):
            for behind in self.orders_behind(ahead + [landing], without(left, landing.craft.number)):
                orders.append([landing] + behind)
        return orders

    def allowed_orders(self):
        return self.orders_behind(self.landed, self.waiting)

    # None says that no order is allowed; of nobody the plan is an empty list. Only a better order takes
    # another's place, so of orders that are as good the first stays.
    def plan(self):
        best = None
        for order in self.allowed_orders():
            if is_better(order, best):
                best = order
        return best

    def may_land(self, number, time):
        return any([landing_of(order, number).time <= time for order in self.allowed_orders()])

    # A list of the one that this landing has to wait for, or of none if it waits for nobody.
    def held_up_by(self, landing, planned):
        if landing.time == landing.craft.first:
            return []
        ahead = self.landed + planned
        holding = [other for other in ahead if self.soonest_behind(other, landing.craft) == landing.time]
        return [other.craft.number for other in holding[:1]]

    def expected(self):
        planned = self.plan()
        if planned is None:
            return [Landing(craft, craft.first) for craft in self.waiting]
        return planned

"""The calls on one new airport, as one list of numbers, and their answers as another."""

from airmornings.airport import Airport


def begins(airport, handed):
    return airport.begins(handed[0], handed[1], handed[2])


def room(airport, handed):
    return airport.room(handed[0], handed[1], handed[2])


def stand(airport, handed):
    return airport.stand(handed[0], handed[1])


def ban(airport, handed):
    return airport.ban(handed[0], handed[1], handed[2], handed[3])


def comes(airport, handed):
    return airport.comes(handed[0], handed[1], handed[2], handed[3], handed[4], handed[5])


def lands(airport, handed):
    return airport.lands()


def goes(airport, handed):
    return airport.goes(handed[0])


def late(airport, handed):
    return airport.late(handed[0], handed[1])


def shut(airport, handed):
    return airport.shut(handed[0], handed[1])


def plan(airport, handed):
    return airport.plan()


def may(airport, handed):
    return airport.may(handed[0], handed[1])


def why(airport, handed):
    return airport.why(handed[0])


def where(airport, handed):
    return airport.where(handed[0])


def steps(airport, handed):
    return airport.steps()


def moved(airport, handed):
    return airport.moved()


def free(airport, handed):
    return airport.free(handed[0], handed[1], handed[2])


def state(airport, handed):
    return airport.state()


# By the number of the call: how many numbers are handed to it, and what answers it.
CALLS = (
    (3, begins),
    (3, room),
    (2, stand),
    (4, ban),
    (6, comes),
    (0, lands),
    (1, goes),
    (2, late),
    (2, shut),
    (0, plan),
    (2, may),
    (1, why),
    (1, where),
    (0, steps),
    (0, moved),
    (3, free),
    (0, state),
)


def answers(calls):
    airport = Airport()
    answered = []
    at = 0
    while at < len(calls):
        call = CALLS[calls[at]]
        behind = at + 1 + call[0]
        answer = call[1](airport, calls[at + 1:behind])
        answered.append(len(answer))
        answered.extend(answer)
        at = behind
    return answered

"""The calls as numbers, and the answers call by call."""

from airmornings.ground import answers

GREATEST = 4294967295


def begins(shift=1, far=0, taxi=0):
    return [0, shift, far, taxi]


def room(one, other, much):
    return [1, one, other, much]


def stand(size=2, far=0):
    return [2, size, far]


def ban(one, size, other, other_size):
    return [3, one, size, other, other_size]


def comes(sort=0, size=0, many=1, first=0, last=1000, stay=10):
    return [4, sort, size, many, first, last, stay]


def lands():
    return [5]


def goes(aircraft):
    return [6, aircraft]


def late(aircraft, end):
    return [7, aircraft, end]


def shut(stand, truth=1):
    return [8, stand, truth]


def plan():
    return [9]


def may(aircraft, time):
    return [10, aircraft, time]


def why(aircraft):
    return [11, aircraft]


def where(aircraft):
    return [12, aircraft]


def steps():
    return [13]


def moved():
    return [14]


def free(stand, begin, end):
    return [15, stand, begin, end]


def state():
    return [16]


def flat(calls):
    numbers = []
    for call in calls:
        numbers.extend(call)
    return numbers


def split(answered):
    parts = []
    at = 0
    while at < len(answered):
        parts.append(answered[at + 1:at + 1 + answered[at]])
        at += 1 + answered[at]
    return parts


def ask(calls):
    """What each of the calls answers, as one list of numbers each."""
    parts = split(answers(flat(calls)))
    if len(parts) != len(calls):
        raise AssertionError(f"{len(calls)} calls, {len(parts)} answers")
    return parts


def last(calls):
    return ask(calls)[-1]


def came(number, place, moved=()):
    return [number, 1, place, len(moved), *moved]


def landed(number, time, place, moved=()):
    return [number, 2, time, place, len(moved), *moved]


def went(had_landed, moved=()):
    return [had_landed, len(moved), *moved]


def changed(moved=()):
    return [len(moved), len(moved), *moved]


def planned(end, *landings):
    """Each landing is a pair of who lands and when."""
    return [end, 2 * len(landings), *(number for landing in landings for number in landing)]


def held(time, *ahead):
    return [time, len(ahead), *ahead]


def found(landed, place, begin, end):
    return [landed, 3, place, begin, end]


def walked(as_set, fewest):
    return [as_set, 1, fewest]


def moves(*often):
    return [sum(often), len(often), *often]


def there(*flights):
    return [len(flights), len(flights), *flights]


def stood(many, begun=(1, 0, 0), landed=(), waiting=(), flights=()):
    """Each that landed is a pair, each flight three numbers."""
    landed = [number for landing in landed for number in landing]
    flights = [number for flight in flights for number in flight]
    return [many, 3, *begun, len(landed), *landed, len(waiting), *waiting, len(flights), *flights]


def changed_by(calls, queries):
    """The places among the calls at which the queries make a difference to what the calls answer, or to the state."""
    calls = calls + [state()]
    plain = ask(calls)
    places = []
    for at in range(len(calls)):
        told = ask(calls[:at] + queries + calls[at:])
        if plain != told[:at] + told[at + len(queries):]:
            places.append(at)
    return places


def landings(calls, many):
    """Who lands and when, for so many landings behind the calls."""
    return [tuple([answer[0], answer[2]]) for answer in ask(calls + [lands()] * many)[-many:]]

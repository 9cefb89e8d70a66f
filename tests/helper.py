"""The calls as numbers, and the answers call by call."""

from airmornings.ground import answers

GREATEST = 4294967295


def begins(shift=1, far=0, taxi=0):
    return [0, shift, far, taxi]


def room(one, other, much):
    return [1, one, other, much]


def stand(size=2, far=0):
    return [2, size, far]


def ban(one, size, other, other_size):
    return [3, one, size, other, other_size]


def comes(sort=0, size=0, many=1, first=0, last=1000, stay=10):
    return [4, sort, size, many, first, last, stay]


def lands():
    return [5]


def goes(aircraft):
    return [6, aircraft]


def late(aircraft, end):
    return [7, aircraft, end]


def shut(stand, truth=1):
    return [8, stand, truth]


def flat(calls):
    numbers = []
    for call in calls:
        numbers.extend(call)
    return numbers


def split(answered):
    parts = []
    at = 0
    while at < len(answered):
        parts.append(answered[at + 1:at + 1 + answered[at]])
        at += 1 + answered[at]
    return parts


def ask(calls):
    """What each of the calls answers, as one list of numbers each."""
    parts = split(answers(flat(calls)))
    if len(parts) != len(calls):
        raise AssertionError(f"{len(calls)} calls, {len(parts)} answers")
    return parts


def last(calls):
    return ask(calls)[-1]


def came(number, place, moved=()):
    return [number, 1, place, len(moved), *moved]


def landed(number, time, place, moved=()):
    return [number, 2, time, place, len(moved), *moved]


def went(had_landed, moved=()):
    return [had_landed, len(moved), *moved]


def changed(moved=()):
    return [len(moved), len(moved), *moved]


def landings(calls, many):
    """Who lands and when, for so many landings behind the calls."""
    return [tuple([answer[0], answer[2]]) for answer in ask(calls + [lands()] * many)[-many:]]

"""The calls on one pack: read from a list of whole numbers, refused or carried out, and answered."""

from evenpack.groups import Pack

NO_SUCH_GROUP = -2
NOT_STARTED = -11
HOLDS_FEWER = -12
NOT_AS_TOLD = -22
OUT_OF_REACH = -33

START = 0

MOST_GROUPS = 10
MOST_ROOM = 10000
MOST_LEAK = 1000
MOST_MOVED = 100000


def start(pack, rooms):
    if len(rooms) < 1 or len(rooms) > MOST_GROUPS:
        return [NOT_AS_TOLD]
    if any([room < 1 or room > MOST_ROOM for room in rooms]):
        return [NOT_AS_TOLD]
    pack.begin(rooms)
    return [len(rooms)]


def hold(pack, held):
    if len(held) != len(pack.rooms):
        return [NOT_AS_TOLD]
    if any([holds > room for room, holds in zip(pack.rooms, held)]):
        return [NOT_AS_TOLD]
    pack.put(held)
    return [sum(held)]


def leak(pack, leaks):
    if len(leaks) != len(pack.rooms):
        return [NOT_AS_TOLD]
    if any([loses > MOST_LEAK for loses in leaks]):
        return [NOT_AS_TOLD]
    pack.set_leaks(leaks)
    return [0]


def may_move(n):
    return 1 <= n and n <= MOST_MOVED


def fill(pack, numbers):
    if not may_move(numbers[0]):
        return [NOT_AS_TOLD]
    return [pack.fill(numbers[0])]


def draw(pack, numbers):
    if not may_move(numbers[0]):
        return [NOT_AS_TOLD]
    return [pack.draw(numbers[0])]


def bleed(pack, numbers):
    group = numbers[0]
    n = numbers[1]
    if group >= len(pack.rooms):
        return [NO_SUCH_GROUP]
    if n == 0:
        return [NOT_AS_TOLD]
    amounts = pack.amounts_of_one(group, n)
    if not pack.can_bleed(amounts):
        return [HOLDS_FEWER]
    pack.bleed_each(amounts)
    return [pack.held[group]]


def even(pack, numbers):
    amounts = pack.amounts_to_even()
    if not pack.can_bleed(amounts):
        return [OUT_OF_REACH]
    return [pack.bleed_each(amounts)]


def evens(pack, numbers):
    amounts = pack.amounts_to_even()
    return [len(amounts)] + amounts


def reach(pack, numbers):
    if numbers[0] > pack.most():
        return [OUT_OF_REACH]
    return [sum(pack.amounts_to_give(numbers[0]))]


def bleeds(pack, numbers):
    if numbers[0] > pack.most():
        return [OUT_OF_REACH]
    return [pack.bleed_each(pack.amounts_to_give(numbers[0]))]


def gives(pack, numbers):
    return [pack.gives()]


def most(pack, numbers):
    return [pack.most()]


ANSWERED_BY = {
    0: start,
    1: hold,
    2: leak,
    3: fill,
    4: draw,
    5: bleed,
    6: even,
    7: evens,
    8: reach,
    9: bleeds,
    10: gives,
    11: most,
}

# Calls that have one row; all others have as many whole numbers as told below.
WITH_A_ROW = (0, 1, 2)
WHOLE_NUMBERS = {3: 1, 4: 1, 5: 2, 6: 0, 7: 0, 8: 1, 9: 1, 10: 0, 11: 0}


def answer(pack, call, numbers):
    if call != START and not pack.started():
        return [NOT_STARTED]
    answered_by = ANSWERED_BY[call]
    return answered_by(pack, numbers)


def answers(calls):
    """Answer the calls on one new pack: for each, how many numbers are answered, then these."""
    pack = Pack()
    given = []
    place = 0
    while place < len(calls):
        call = calls[place]
        place = place + 1
        if call in WITH_A_ROW:
            width = calls[place]
            place = place + 1
        else:
            width = WHOLE_NUMBERS[call]
        numbers = answer(pack, call, calls[place:place + width])
        given.append(len(numbers))
        given.extend(numbers)
        place = place + width
    return given

"""The calls on one pack: read from a list of whole numbers, refused or carried out, and answered."""

from evenpack.groups import Pack

NO_SUCH_GROUP = -2
NOT_STARTED = -11
HOLDS_FEWER = -12
NOT_AS_TOLD = -22
OUT_OF_REACH = -33

START = 0

MOST_GROUPS = 10
MOST_ROOM = 10000
MOST_LEAK = 1000
MOST_MOVED = 100000
MOST_DAYS = 1000


def is_room(number):
    return 1 <= number and number <= MOST_ROOM


def is_group(pack, number):
    return number < len(pack.rooms)


def start(pack, rooms):
    if len(rooms) < 1 or len(rooms) > MOST_GROUPS:
        return [NOT_AS_TOLD]
    if not all([is_room(room) for room in rooms]):
        return [NOT_AS_TOLD]
    pack.begin(rooms)
    return [len(rooms)]


def hold(pack, held):
    if len(held) != len(pack.rooms):
        return [NOT_AS_TOLD]
    if any([holds > room for room, holds in zip(pack.rooms, held)]):
        return [NOT_AS_TOLD]
    pack.put(held)
    return [sum(held)]


def leak(pack, leaks):
    if len(leaks) != len(pack.rooms):
        return [NOT_AS_TOLD]
    if any([loses > MOST_LEAK for loses in leaks]):
        return [NOT_AS_TOLD]
    pack.set_leaks(leaks)
    return [0]


def may_move(n):
    return 1 <= n and n <= MOST_MOVED


def fill(pack, numbers):
    if not may_move(numbers[0]):
        return [NOT_AS_TOLD]
    return [pack.fill(numbers[0])]


def draw(pack, numbers):
    if not may_move(numbers[0]):
        return [NOT_AS_TOLD]
    return [pack.draw(numbers[0])]


def bleed(pack, numbers):
    group = numbers[0]
    n = numbers[1]
    if not is_group(pack, group):
        return [NO_SUCH_GROUP]
    if n == 0:
        return [NOT_AS_TOLD]
    amounts = pack.amounts_of_one(group, n)
    if not pack.can_bleed(amounts):
        return [HOLDS_FEWER]
    pack.bleed_each(amounts)
    return [pack.held[group]]


def even(pack, numbers):
    amounts = pack.amounts_to_even()
    if not pack.can_bleed(amounts):
        return [OUT_OF_REACH]
    return [pack.bleed_each(amounts)]


def evens(pack, numbers):
    amounts = pack.amounts_to_even()
    return [len(amounts)] + amounts


def reach(pack, numbers):
    if numbers[0] > pack.most():
        return [OUT_OF_REACH]
    return [sum(pack.amounts_to_give(numbers[0]))]


def bleeds(pack, numbers):
    if numbers[0] > pack.most():
        return [OUT_OF_REACH]
    return [pack.bleed_each(pack.amounts_to_give(numbers[0]))]


def gives(pack, numbers):
    return [pack.gives()]


def most(pack, numbers):
    return [pack.most()]


def lacks(pack, numbers):
    amounts = pack.lacks()
    return [len(amounts)] + amounts


def least_and_first(amounts):
    least = min(amounts)
    return [least, amounts.index(least)]


def weakest(pack, numbers):
    return least_and_first(pack.held)


def fullest(pack, numbers):
    return least_and_first(pack.lacks())


def days(pack, numbers):
    n = numbers[0]
    if n < 1 or n > MOST_DAYS:
        return [NOT_AS_TOLD]
    return [pack.lose(n)]


def when(pack, numbers):
    till = pack.days_till_below(numbers[0], MOST_DAYS)
    if till is None:
        return [OUT_OF_REACH]
    return [till]


def swap(pack, numbers):
    group = numbers[0]
    room = numbers[1]
    holds = numbers[2]
    if not is_group(pack, group):
        return [NO_SUCH_GROUP]
    if not is_room(room) or holds > room:
        return [NOT_AS_TOLD]
    return [pack.swap(group, room, holds)]


def gain(pack, numbers):
    group = numbers[0]
    room = numbers[1]
    if not is_group(pack, group):
        return [NO_SUCH_GROUP]
    if not is_room(room):
        return [NOT_AS_TOLD]
    return [pack.most_with(group, room) - pack.most()]


def best(pack, numbers):
    room = numbers[0]
    if not is_room(room):
        return [NOT_AS_TOLD]
    mosts = [pack.most_with(group, room) for group in range(len(pack.rooms))]
    if max(mosts) <= pack.most():
        return [OUT_OF_REACH]
    return [mosts.index(max(mosts)), max(mosts)]


def units(pack, numbers):
    return pack.units()


def look(pack, numbers):
    group = numbers[0]
    if not is_group(pack, group):
        return [NO_SUCH_GROUP]
    return [pack.held[group], pack.rooms[group], pack.leaks[group]]


def state(pack, numbers):
    return [len(pack.rooms), pack.gives(), pack.most()]


ANSWERED_BY = {
    0: start,
    1: hold,
    2: leak,
    3: fill,
    4: draw,
    5: bleed,
    6: even,
    7: evens,
    8: reach,
    9: bleeds,
    10: gives,
    11: most,
    12: lacks,
    13: weakest,
    14: fullest,
    15: days,
    16: when,
    17: swap,
    18: gain,
    19: best,
    20: units,
    21: look,
    22: state,
}

# Calls that have one row; all others have as many whole numbers as told below.
WITH_A_ROW = (0, 1, 2)
WHOLE_NUMBERS = {
    3: 1, 4: 1, 5: 2, 6: 0, 7: 0, 8: 1, 9: 1, 10: 0, 11: 0, 12: 0,
    13: 0, 14: 0, 15: 1, 16: 1, 17: 3, 18: 2, 19: 1, 20: 0, 21: 1, 22: 0,
}


def answer(pack, call, numbers):
    if call != START and not pack.started():
        return [NOT_STARTED]
    answered_by = ANSWERED_BY[call]
    return answered_by(pack, numbers)


def answers(calls):
    """Answer the calls on one new pack: for each, how many numbers are answered, then these."""
    pack = Pack()
    given = []
    place = 0
    while place < len(calls):
        call = calls[place]
        place = place + 1
        if call in WITH_A_ROW:
            width = calls[place]
            place = place + 1
        else:
            width = WHOLE_NUMBERS[call]
        numbers = answer(pack, call, calls[place:place + width])
        given.append(len(numbers))
        given.extend(numbers)
        place = place + width
    return given

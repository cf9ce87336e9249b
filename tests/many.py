"""Many lists of calls of all kinds: the same ones at every run."""

import random

from asking import LARGEST, NUMBER_OF

# A start or a hold begins anew, so they are rarer than what comes between them.
WEIGHTS = [1 if name in ("start", "hold") else 4 for name in NUMBER_OF]


class Calls:
    """Makes calls, with rooms of at most `largest`."""

    def __init__(self, seed, largest):
        self.chance = random.Random(seed)
        self.largest = largest
        self.rooms = [1]

    def number(self, least, most, *wrong):
        """Mostly one from least to most, sometimes an edge, sometimes a wrong one."""
        which = self.chance.randrange(12)
        if which == 0 and wrong:
            return self.chance.choice(wrong)
        if which == 1:
            return self.chance.choice((least, most))
        return self.chance.randint(least, most)

    def row(self, numbers, wrong):
        """These numbers, sometimes with a wrong one, one too few or one too many."""
        which = self.chance.randrange(20)
        if which == 0:
            return numbers[1:]
        if which == 1:
            return numbers + [1]
        if which == 2:
            numbers[self.chance.randrange(len(numbers))] = wrong
        return numbers

    def start(self):
        rooms = [self.number(1, self.largest) for i in range(self.number(1, 5, 8, 10))]
        if self.chance.randrange(3) == 0:
            rooms = rooms[:1] * len(rooms)
        wrong = self.chance.choice((0, 10001, LARGEST))
        self.rooms = self.row(list(rooms), wrong) if self.chance.randrange(4) == 0 else rooms
        return [self.rooms]

    def hold(self):
        return [self.row([self.number(0, room) for room in self.rooms] or [0], 10001)]

    def leak(self):
        most = self.chance.choice((0, 1, 3, 1000))
        return [self.row([self.number(0, most) for room in self.rooms] or [0], self.chance.choice((1001, LARGEST)))]

    def amount(self):
        return self.number(1, self.largest, 0, 100000, 100001, LARGEST)

    def group(self):
        return self.number(0, max(0, len(self.rooms) - 1), len(self.rooms), 10, LARGEST)

    def room(self):
        return self.number(1, self.largest + 2, 0, 10000, 10001, LARGEST)

    def target(self):
        return self.number(0, min(self.rooms, default=1), min(self.rooms, default=1) + 1, self.largest, LARGEST)

    def swap(self):
        room = self.room()
        return [self.group(), room, self.number(0, min(room, self.largest), room + 1 if room < LARGEST else room)]

    def given_to(self, name):
        if name in ("start", "hold", "leak", "swap"):
            return getattr(self, name)()
        return {
            "fill": lambda: [self.amount()], "draw": lambda: [self.amount()],
            "bleed": lambda: [self.group(), self.number(1, 3, 0, self.largest, LARGEST)],
            "reach": lambda: [self.target()], "bleeds": lambda: [self.target()], "when": lambda: [self.target()],
            "days": lambda: [self.number(1, 4, 0, 1000, 1001, LARGEST)],
            "gain": lambda: [self.group(), self.room()], "best": lambda: [self.room()],
            "look": lambda: [self.group()],
        }.get(name, lambda: [])()

    def call(self):
        name = self.chance.choices(list(NUMBER_OF), WEIGHTS)[0]
        return (name, *self.given_to(name))


def lists_of_calls(how_many, length, largest):
    for seed in range(how_many):
        calls = Calls(seed, largest)
        # Mostly begun with a start, as nothing else is answered before.
        begun = [("start", *calls.start())] if seed % 8 else []
        yield begun + [calls.call() for i in range(length - len(begun))]

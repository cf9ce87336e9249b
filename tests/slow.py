"""A pack after the words of the document: a day at a time, a mark at a time, each group for itself."""

COUNTED = ("put in", "filled", "drawn", "bled", "leaked")


class Refused(Exception):
    def __init__(self, number):
        Exception.__init__(self, number)
        self.number = number


def refuse_if(wrong, number):
    if wrong:
        raise Refused(number)


def given_by(rooms, holds):
    """Filled till the first is full, then drawn till the first is empty."""
    lacked = min(room - own for room, own in zip(rooms, holds))
    return min(own + lacked for own in holds)


def slowly_filled(rooms, holds):
    while all(own < room for room, own in zip(rooms, holds)):
        holds = [own + 1 for own in holds]
    return holds


def slowly_given(rooms, holds):
    """As given_by, a unit at a time."""
    holds = slowly_filled(rooms, holds)
    units = 0
    while all(own > 0 for own in holds):
        holds = [own - 1 for own in holds]
        units += 1
    return units


class SlowPack:
    def __init__(self):
        self.rooms = []
        self.refusal = None

    def answer(self, name, *given):
        """The numbers that are answered; refusal is the refusal's number, or None."""
        self.refusal = None
        try:
            refuse_if(name != "start" and not self.rooms, -11)
            return getattr(self, name)(*given)
        except Refused as refused:
            self.refusal = refused.number
            return [refused.number]

    def refuse_group(self, i):
        refuse_if(i not in range(len(self.rooms)), -2)

    def begin_units(self, holds):
        self.holds = list(holds)
        self.count = dict.fromkeys(COUNTED, 0)
        self.count["put in"] = sum(holds)

    def move(self, i, n, counted):
        self.holds[i] += n
        self.count[counted] += abs(n)

    def lacked(self):
        return [room - own for room, own in zip(self.rooms, self.holds)]

    def start(self, rooms):
        refuse_if(len(rooms) not in range(1, 11), -22)
        refuse_if(any(room not in range(1, 10001) for room in rooms), -22)
        self.rooms = list(rooms)
        self.losses = [0] * len(rooms)
        self.begin_units([0] * len(rooms))
        return [len(rooms)]

    def hold(self, holds):
        refuse_if(len(holds) != len(self.rooms), -22)
        refuse_if(any(own > room for room, own in zip(self.rooms, holds)), -22)
        self.begin_units(holds)
        return [sum(holds)]

    def leak(self, losses):
        refuse_if(len(losses) != len(self.rooms), -22)
        refuse_if(max(losses) > 1000, -22)
        self.losses = list(losses)
        return [0]

    def fill(self, n):
        refuse_if(n not in range(1, 100001), -22)
        got = min([n] + self.lacked())
        for i in range(len(self.rooms)):
            self.move(i, got, "filled")
        return [got]

    def draw(self, n):
        refuse_if(n not in range(1, 100001), -22)
        gave = min([n] + self.holds)
        for i in range(len(self.rooms)):
            self.move(i, -gave, "drawn")
        return [gave]

    def bleed(self, i, n):
        self.refuse_group(i)
        refuse_if(n == 0, -22)
        refuse_if(self.holds[i] < n, -12)
        self.move(i, -n, "bled")
        return [self.holds[i]]

    def bleed_all(self, amounts):
        for i, amount in enumerate(amounts):
            self.move(i, -amount, "bled")
        return [sum(amounts)]

    def evens(self):
        most = max(self.lacked())
        return [len(self.rooms)] + [most - lack for lack in self.lacked()]

    def even(self):
        amounts = self.evens()[1:]
        refuse_if(any(own < amount for own, amount in zip(self.holds, amounts)), -33)
        return self.bleed_all(amounts)

    def amounts_to_give(self, t):
        """The least mark that is enough, found by trying one behind another."""
        refuse_if(t > min(self.rooms), -33)
        mark = 0
        while True:
            amounts = [max(0, mark - lack) for lack in self.lacked()]
            if given_by(self.rooms, [own - amount for own, amount in zip(self.holds, amounts)]) >= t:
                return amounts
            mark += 1

    def reach(self, t):
        return [sum(self.amounts_to_give(t))]

    def bleeds(self, t):
        return self.bleed_all(self.amounts_to_give(t))

    def gives(self):
        return [given_by(self.rooms, self.holds)]

    def most(self):
        return [min(self.rooms)]

    def lacks(self):
        return [len(self.rooms)] + self.lacked()

    def weakest(self):
        return list(min((own, i) for i, own in enumerate(self.holds)))

    def fullest(self):
        return list(min((lack, i) for i, lack in enumerate(self.lacked())))

    def a_day_later(self, holds):
        return [own - min(own, loses) for own, loses in zip(holds, self.losses)]

    def days(self, n):
        refuse_if(n not in range(1, 1001), -22)
        before = self.count["leaked"]
        for day in range(n):
            for i, after in enumerate(self.a_day_later(self.holds)):
                self.move(i, after - self.holds[i], "leaked")
        return [self.count["leaked"] - before]

    def when(self, t):
        holds = list(self.holds)
        for day in range(1001):
            if given_by(self.rooms, holds) < t:
                return [day]
            holds = self.a_day_later(holds)
        raise Refused(-33)

    def swap(self, i, c, h):
        self.refuse_group(i)
        refuse_if(c not in range(1, 10001) or h > c, -22)
        old = self.holds[i]
        self.move(i, -old, "drawn")
        self.rooms[i] = c
        self.losses[i] = 0
        self.move(i, h, "put in")
        return [old]

    def most_with(self, i, c):
        return min([c] + self.rooms[:i] + self.rooms[i + 1:])

    def gain(self, i, c):
        self.refuse_group(i)
        refuse_if(c not in range(1, 10001), -22)
        return [self.most_with(i, c) - min(self.rooms)]

    def best(self, c):
        refuse_if(c not in range(1, 10001), -22)
        found = None
        for i in range(len(self.rooms)):
            brought = self.gain(i, c)[0]
            if brought > 0 and (found is None or brought > self.gain(found, c)[0]):
                found = i
        refuse_if(found is None, -33)
        return [found, self.most_with(found, c)]

    def units(self):
        return [sum(self.holds)] + [self.count[counted] for counted in COUNTED]

    def look(self, i):
        self.refuse_group(i)
        return [self.holds[i], self.rooms[i], self.losses[i]]

    def state(self):
        return [len(self.rooms)] + self.gives() + self.most()

"""The groups of one pack: what each has room for, holds and loses a day, and all that came and went."""


class Pack:
    """A pack without groups, till it begins with some."""

    def __init__(self):
        self.rooms = []
        self.leaks = []
        self.put([])

    def started(self):
        # A pack never begins with no room at all, so rooms are the sign of a start.
        return len(self.rooms) > 0

    def begin(self, rooms):
        self.rooms = list(rooms)
        self.leaks = [0 for room in rooms]
        self.put([0 for room in rooms])

    def put(self, held):
        """Let the groups hold these, as if nothing else had ever come or gone."""
        self.held = list(held)
        self.put_in = sum(held)
        self.filled = 0
        self.drawn = 0
        self.bled = 0
        self.leaked = 0

    def set_leaks(self, leaks):
        self.leaks = list(leaks)

    def lacks(self):
        return self.lacks_holding(self.held)

    def lacks_holding(self, held):
        return [room - holds for room, holds in zip(self.rooms, held)]

    def gives(self):
        return self.gives_holding(self.held)

    def gives_holding(self, held):
        # Filled, each gains the least lack; so the one that holds least now is the first to be empty then.
        return min(held) + min(self.lacks_holding(held))

    def most(self):
        return min(self.rooms)

    def most_with(self, group, room):
        """The most it could give, were this group's room another."""
        return min([room if other == group else own for other, own in enumerate(self.rooms)])

    def units(self):
        return [sum(self.held), self.put_in, self.filled, self.drawn, self.bled, self.leaked]

    def fill(self, n):
        got = min(n, min(self.lacks()))
        self.held = [holds + got for holds in self.held]
        self.filled = self.filled + got * len(self.held)
        return got

    def draw(self, n):
        gave = min(n, min(self.held))
        self.held = [holds - gave for holds in self.held]
        self.drawn = self.drawn + gave * len(self.held)
        return gave

    def bleed_each(self, amounts):
        """Bleed each group by its amount, which it must hold: how many units in all."""
        units = sum(amounts)
        self.held = [holds - amount for holds, amount in zip(self.held, amounts)]
        self.bled = self.bled + units
        return units

    def can_bleed(self, amounts):
        return all([amount <= holds for holds, amount in zip(self.held, amounts)])

    def amounts_of_one(self, group, n):
        return [n if other == group else 0 for other in range(len(self.held))]

    def amounts_to_lack(self, mark):
        return [max(0, mark - lack) for lack in self.lacks()]

    def amounts_to_even(self):
        return self.amounts_to_lack(max(self.lacks()))

    def amounts_to_give(self, t):
        """What each must bleed so that the pack gives t, which is no more than the most it could give."""
        # The mark is never above the least room, so every group holds what it is to bleed.
        return self.amounts_to_lack(max(min(self.lacks()), t - min(self.held)))

    def held_after(self, days):
        # A group that has run empty loses nothing more, so many days at once are the same as one behind another.
        return [max(0, holds - loses * days) for holds, loses in zip(self.held, self.leaks)]

    def lose(self, days):
        """Let days go by: how many units were lost."""
        after = self.held_after(days)
        units = sum(self.held) - sum(after)
        self.held = after
        self.leaked = self.leaked + units
        return units

    def days_till_below(self, t, limit):
        """In how many days, at most limit, it gives less than t; None if in none of them."""
        # What it gives may rise before it falls, as the fullest group's leak makes room: so each day is looked at.
        for days in range(limit + 1):
            if self.gives_holding(self.held_after(days)) < t:
                return days
        return None

    def swap(self, group, room, holds):
        """Exchange a group for one without a leak: what the old one held."""
        old = self.held[group]
        self.rooms[group] = room
        self.held[group] = holds
        self.leaks[group] = 0
        self.drawn = self.drawn + old
        self.put_in = self.put_in + holds
        return old

"""What the tests share: calls by name, answers call by call, and what can be seen of a pack."""

from evenpack.packs import answers

NUMBER_OF = {
    "start": 0, "hold": 1, "leak": 2, "fill": 3, "draw": 4, "bleed": 5,
    "even": 6, "evens": 7, "reach": 8, "bleeds": 9, "gives": 10, "most": 11,
    "lacks": 12, "weakest": 13, "fullest": 14, "days": 15, "when": 16, "swap": 17,
    "gain": 18, "best": 19, "units": 20, "look": 21, "state": 22,
}
LARGEST = 4294967295


def line(*calls):
    """The one list of numbers for calls like ("start", [5, 6]) and ("bleed", 0, 2)."""
    numbers = []
    for name, *rest in calls:
        numbers.append(NUMBER_OF[name])
        for given in rest:
            numbers.extend([len(given), *given] if isinstance(given, list) else [given])
    return numbers


def split(given, how_many):
    """The answers one by one; nothing may be missing, left over, or other than a plain whole number."""
    assert type(given) is list and all(type(number) is int for number in given), given
    parts = []
    place = 0
    while place < len(given):
        width = given[place]
        part = given[place + 1:place + 1 + width]
        assert width >= 1 and len(part) == width, given
        parts.append(part)
        place += 1 + width
    assert len(parts) == how_many, given
    return parts


def ask(*calls):
    return split(answers(line(*calls)), len(calls))


def last(*calls):
    return ask(*calls)[-1]


def held(*calls):
    """What each group holds after these calls, seen by bleeding one unit of each."""
    count = last(*calls, ("evens",))[0]
    seen = [last(*calls, ("bleed", i, 1))[0] for i in range(count)]
    return [0 if number == -12 else number + 1 for number in seen]


def lacks(*calls):
    """What each group lacks after these calls, seen by evens and by filling till the first is full."""
    to_bleed = last(*calls, ("evens",))[1:]
    least = last(*calls, ("fill", 100000))[0]
    return [least + max(to_bleed) - amount for amount in to_bleed]


def seen(*calls):
    return held(*calls), lacks(*calls), last(*calls, ("most",))


def looks(*calls):
    """What each group holds, its room and its leak after these calls."""
    count = last(*calls, ("state",))[0]
    return ask(*calls, *[("look", i) for i in range(count)])[len(calls):]


def leaks(*calls):
    return [look[2] for look in looks(*calls)]


def units(*calls):
    return last(*calls, ("units",))


def kept(*calls):
    """All that calls can show of what is kept after these calls."""
    return looks(*calls), units(*calls)


class Refusals:
    """For test cases: a refusal is its number alone, and leaves what was there as it was."""

    def refuses(self, number, before, call):
        self.assertEqual(last(*before, call), [number], call)
        self.assertEqual(seen(*before, call), seen(*before), call)
        self.assertEqual(kept(*before, call), kept(*before), call)

    def changes_nothing(self, before, call):
        self.assertEqual(kept(*before, call), kept(*before), call)

"""Many lists of calls of all 23 kinds, against the pack of slow.py."""

import unittest

from asking import NUMBER_OF, ask
from many import lists_of_calls
from slow import SlowPack

# What the document names for each call, beside -11.
REFUSALS = {
    "start": (-22,), "hold": (-22,), "leak": (-22,), "fill": (-22,), "draw": (-22,), "bleed": (-2, -22, -12),
    "even": (-33,), "reach": (-33,), "bleeds": (-33,), "days": (-22,), "when": (-33,), "swap": (-2, -22),
    "gain": (-2, -22), "best": (-22, -33), "look": (-2,),
}


def kinds_of_answers():
    for name in NUMBER_OF:
        yield name, None
        for refusal in REFUSALS.get(name, ()):
            yield name, refusal
        if name != "start":
            yield name, -11


class ManyLists(unittest.TestCase):
    def compare(self, lists):
        met = set()
        for calls in lists:
            pack = SlowPack()
            wanted = []
            for call in calls:
                wanted.append(pack.answer(*call))
                met.add((call[0], pack.refusal))
            self.assertEqual(ask(*calls), wanted, calls)
        return met

    def test_small_rooms(self):
        # Each answer and each refusal of each call is met, or the lists would show little.
        self.assertEqual(self.compare(lists_of_calls(600, 60, 9)), set(kinds_of_answers()))

    def test_lists_as_long_as_may_be(self):
        self.compare(lists_of_calls(20, 200, 40))

    def test_large_rooms(self):
        self.compare(lists_of_calls(60, 60, 10000))


if __name__ == "__main__":
    unittest.main()

"""What holds of every small pack, against a pack that is filled, drawn and bled a unit at a time."""

import itertools
import unittest

from asking import ask, held, last, played


def small_packs():
    """Every pack of 1 to 3 groups with rooms of 1 to 3, whatever it holds."""
    groups = [(room, holds) for room in range(1, 4) for holds in range(room + 1)]
    for count in (1, 2, 3):
        for chosen in itertools.product(groups, repeat=count):
            yield [room for room, holds in chosen], [holds for room, holds in chosen]


def slowly_filled(rooms, holds):
    while all(own < room for room, own in zip(rooms, holds)):
        holds = [own + 1 for own in holds]
    return holds


def slowly_given(rooms, holds):
    holds = slowly_filled(rooms, holds)
    units = 0
    while all(own > 0 for own in holds):
        holds = [own - 1 for own in holds]
        units += 1
    return units


def least_bled(rooms, holds):
    """For each t, the fewest units that any way of bleeding takes to give t or more."""
    fewest = {}
    for after in itertools.product(*[range(own + 1) for own in holds]):
        bled = sum(holds) - sum(after)
        for t in range(slowly_given(rooms, list(after)) + 1):
            fewest[t] = min(bled, fewest.get(t, bled))
    return fewest


class EverySmallPack(unittest.TestCase):
    def test_gives_and_most(self):
        for rooms, holds in small_packs():
            given = ask(("start", rooms), ("hold", holds), ("gives",), ("most",))[2:]
            self.assertEqual(given, [[slowly_given(rooms, holds)], [min(rooms)]], (rooms, holds))

    def test_no_less_bled_will_do(self):
        for rooms, holds in small_packs():
            pack = (("start", rooms), ("hold", holds))
            fewest = least_bled(rooms, holds)
            for t in range(5):
                wanted = [fewest.get(t, -33)]
                self.assertEqual(last(*pack, ("reach", t)), wanted, (rooms, holds, t))
                bled, given = ask(*pack, ("bleeds", t), ("gives",))[2:]
                self.assertEqual(bled, wanted, (rooms, holds, t))
                self.assertTrue(bled == [-33] or given[0] >= t, (rooms, holds, t))

    def test_even_is_as_evens_tells(self):
        for rooms, holds in small_packs():
            pack = (("start", rooms), ("hold", holds))
            lacks = [room - own for room, own in zip(rooms, holds)]
            amounts = [max(lacks) - lack for lack in lacks]
            refused = any(amount > own for own, amount in zip(holds, amounts))
            told, bled, given = ask(*pack, ("evens",), ("even",), ("gives",))[2:]
            self.assertEqual(told, [len(rooms)] + amounts)
            self.assertEqual(bled, [-33] if refused else [sum(amounts)])
            if not refused:
                self.assertEqual(given, [min(rooms)])

    def test_at_once_or_one_behind_another(self):
        for rooms, holds in small_packs():
            pack = (("start", rooms), ("hold", holds))
            for name in ("fill", "draw"):
                for first, second in ((1, 1), (1, 2), (2, 1)):
                    apart = ask(*pack, (name, first), (name, second))[2:]
                    self.assertEqual([apart[0][0] + apart[1][0]], last(*pack, (name, first + second)))
                    self.assertEqual(vars(played(*pack, (name, first), (name, second))),
                                     vars(played(*pack, (name, first + second))))

    def test_till_the_first_is_full(self):
        for rooms, holds in small_packs():
            self.assertEqual(held(("start", rooms), ("hold", holds), ("fill", 9)), slowly_filled(rooms, holds))


class NothingIsLost(unittest.TestCase):
    def test_after_every_call(self):
        calls = [
            ("start", [9, 12, 7]), ("fill", 3), ("hold", [2, 11, 5]), ("fill", 100), ("draw", 2), ("bleed", 1, 3),
            ("bleed", 1, 100), ("bleeds", 5), ("fill", 1), ("bleeds", 7), ("even",), ("draw", 100), ("fill", 4),
        ]
        for many in range(1, len(calls) + 1):
            pack = played(*calls[:many])
            came = pack.put_in + pack.filled
            self.assertEqual(came, sum(pack.held) + pack.drawn + pack.bled + pack.leaked, calls[:many])
            self.assertTrue(all(0 <= own <= room for room, own in zip(pack.rooms, pack.held)), calls[:many])

    def test_of_all_groups_together(self):
        calls = (("start", [9, 9, 9]), ("hold", [2, 3, 4]), ("fill", 4), ("draw", 1), ("bleed", 2, 5), ("bleeds", 9))
        pack = played(*calls)
        self.assertEqual(pack.held, held(*calls))
        self.assertEqual((pack.put_in, pack.filled, pack.drawn, pack.bled), (9, 12, 3, 5 + 7))


if __name__ == "__main__":
    unittest.main()

"""days, when, and what leaks."""

import unittest

from asking import LARGEST, Refusals, ask, held, kept, last, leaks, units

THREE = (("start", [6, 8, 7]), ("leak", [1, 3, 0]), ("hold", [3, 7, 3]))
# Day by day it gives 15, 17, 19, 19, 17, 15, 13, 12, 13 and more.
RISING = (("start", [20, 20]), ("hold", [20, 15]), ("leak", [3, 1]))


class Days(Refusals, unittest.TestCase):
    def test_each_loses_its_leak(self):
        self.assertEqual(last(*THREE, ("days", 1)), [4])
        self.assertEqual(held(*THREE, ("days", 1)), [2, 4, 3])
        self.assertEqual(last(*THREE, ("days", 2)), [8])
        self.assertEqual(held(*THREE, ("days", 2)), [1, 1, 3])

    def test_no_more_than_it_holds(self):
        self.assertEqual(last(*THREE, ("days", 3)), [10])
        self.assertEqual(held(*THREE, ("days", 3)), [0, 0, 3])
        self.assertEqual(last(*THREE, ("days", 1000)), [10])
        self.assertEqual(held(*THREE, ("days", 1000)), [0, 0, 3])

    def test_just_what_it_holds(self):
        just = (("start", [5, 5]), ("hold", [4, 4]), ("leak", [4, 5]))
        self.assertEqual(ask(*just, ("days", 1), ("days", 1), ("units",))[3:], [[8], [0], [0, 8, 0, 0, 0, 8]])

    def test_what_is_lost_is_leaked(self):
        self.assertEqual(units(*THREE, ("days", 2)), [5, 13, 0, 0, 0, 8])
        self.assertEqual(units(*THREE, ("days", 2), ("days", 1)), [3, 13, 0, 0, 0, 10])

    def test_leaks_and_rooms_stay(self):
        self.assertEqual(leaks(*THREE, ("days", 1000)), [1, 3, 0])
        self.assertEqual(last(*THREE, ("days", 1000), ("most",)), [6])

    def test_without_leaks_nothing_is_lost(self):
        still = (("start", [6, 8]), ("hold", [6, 2]))
        self.assertEqual(last(*still, ("days", 1000)), [0])
        self.changes_nothing(still, ("days", 1000))

    def test_edges_of_n(self):
        large = (("start", [10000] * 10), ("hold", [10000] * 10), ("leak", [1000] * 9 + [1]))
        self.assertEqual(last(*large, ("days", 1)), [9001])
        self.assertEqual(last(*large, ("days", 9)), [81009])
        self.assertEqual(last(*large, ("days", 10)), [90010])
        self.assertEqual(last(*large, ("days", 999)), [90999])
        self.assertEqual(last(*large, ("days", 1000)), [91000])
        for n in (0, 1001, 1002, LARGEST):
            self.refuses(-22, large, ("days", n))

    def test_a_full_an_empty_and_one_group(self):
        self.assertEqual(last(("start", [5, 5]), ("leak", [2, 2]), ("hold", [5, 0]), ("days", 1)), [2])
        self.assertEqual(last(("start", [5]), ("leak", [2]), ("hold", [5]), ("days", 2)), [4])
        self.assertEqual(last(("start", [5]), ("leak", [2]), ("days", 1)), [0])

    def test_a_leak_that_is_more_than_it_holds(self):
        corner = (("start", [1, 9]), ("leak", [1000, 1000]), ("hold", [1, 9]), ("days", 1))
        self.assertEqual(last(*corner), [10])
        self.assertEqual(held(*corner), [0, 0])

    def test_the_leaks_that_were_told_last(self):
        self.assertEqual(ask(*THREE, ("days", 1), ("leak", [0, 1, 2]), ("days", 1))[3:], [[4], [0], [3]])

    def test_at_once_or_one_behind_another(self):
        for n in (1, 2, 3, 7, 150):
            apart = (("days", 1),) * n
            self.assertEqual(sum(given[0] for given in ask(*THREE, *apart)[3:]), last(*THREE, ("days", n))[0])
            self.assertEqual(kept(*THREE, *apart), kept(*THREE, ("days", n)))


class When(Refusals, unittest.TestCase):
    def test_each_t(self):
        falling = (("start", [10, 10]), ("hold", [10, 10]), ("leak", [0, 3]))
        for t, days in ((11, 0), (10, 1), (8, 1), (7, 2), (5, 2), (4, 3), (2, 3), (1, 4), (0, -33)):
            self.assertEqual(last(*falling, ("when", t)), [days], t)

    def test_it_does_now(self):
        pack = (("start", [5, 9]), ("hold", [5, 2]))
        self.assertEqual(last(*pack, ("gives",)), [2])
        for t in (3, 5, 6, LARGEST):
            self.assertEqual(last(*pack, ("when", t)), [0])
        self.refuses(-33, pack, ("when", 2))

    def test_the_first_day_though_it_gives_more_later(self):
        for t, days in ((16, 0), (15, 6), (14, 6), (13, 7), (12, -33)):
            self.assertEqual(last(*RISING, ("when", t)), [days], t)

    def test_as_gives_tells_day_by_day(self):
        by_day = [last(*RISING, *((("days", d),) if d else ()), ("gives",))[0] for d in range(30)]
        self.assertEqual(by_day[:9], [15, 17, 19, 19, 17, 15, 13, 12, 13])
        for t in range(13, 22):
            first = [d for d, given in enumerate(by_day) if given < t][0]
            self.assertEqual(last(*RISING, ("when", t)), [first], t)

    def test_within_a_thousand_days(self):
        slow = (("start", [10000, 10000]), ("hold", [10000, 10000]), ("leak", [0, 1]))
        for t, days in ((10000, 1), (9002, 999), (9001, 1000)):
            self.assertEqual(last(*slow, ("when", t)), [days], t)
        for t in (9000, 8999, 1, 0):
            self.refuses(-33, slow, ("when", t))

    def test_t_of_nought_never(self):
        for pack in (THREE, RISING, (("start", [5, 5]), ("hold", [5, 0])), (("start", [5]),)):
            self.refuses(-33, pack, ("when", 0))

    def test_t_as_much_as_the_most(self):
        alike = (("start", [7] * 3), ("hold", [7] * 3))
        self.refuses(-33, alike, ("when", 7))
        self.assertEqual(last(*alike, ("when", 8)), [0])
        self.assertEqual(last(*alike, ("leak", [1, 1, 2]), ("when", 7)), [1])
        # Alike in leaks too, they stay alike.
        self.refuses(-33, alike + (("leak", [2, 2, 2]),), ("when", 7))

    def test_one_group_gives_its_room_for_ever(self):
        one = (("start", [5]), ("hold", [5]), ("leak", [1]))
        self.refuses(-33, one, ("when", 5))
        self.assertEqual(last(*one, ("when", 6)), [0])

    def test_a_leak_that_is_more_than_it_holds(self):
        corner = (("start", [5, 5]), ("hold", [5, 2]), ("leak", [0, 1000]))
        self.assertEqual(ask(*corner, ("when", 3), ("when", 2), ("when", 1), ("when", 0))[3:], [[0], [1], [1], [-33]])

    def test_a_group_that_is_empty_loses_nothing(self):
        empty = (("start", [5, 5]), ("hold", [2, 0]), ("leak", [0, 7]))
        self.assertEqual(last(*empty, ("gives",)), [3])
        self.refuses(-33, empty, ("when", 3))

    def test_it_changes_nothing(self):
        for t in (0, 13, 15, LARGEST):
            self.changes_nothing(RISING, ("when", t))

    def test_days_that_went_by_count(self):
        self.assertEqual(ask(*RISING, ("days", 4), ("when", 15), ("days", 2), ("when", 13), ("when", 14))[3:],
                         [[16], [2], [8], [1], [0]])


if __name__ == "__main__":
    unittest.main()

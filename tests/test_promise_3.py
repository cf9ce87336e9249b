"""reach, bleeds, gives, most, lacks, weakest, fullest."""

import unittest

from asking import LARGEST, Refusals, ask, held, last, seen

# It lacks 3, 1 and 4, and holds 3, 7 and 3: it gives 4, and could give 6 at most.
THREE = (("start", [6, 8, 7]), ("leak", [1, 2, 3]), ("hold", [3, 7, 3]))


class GivesAndMost(unittest.TestCase):
    def test_least_held_and_least_lacked(self):
        self.assertEqual(ask(*THREE, ("gives",), ("most",))[3:], [[4], [6]])

    def test_they_change_nothing(self):
        self.assertEqual(seen(*THREE, ("gives",), ("most",)), seen(*THREE))

    def test_one_group_gives_its_room(self):
        for room, holds in ((1, 0), (1, 1), (10000, 0), (10000, 10000), (9, 4)):
            self.assertEqual(ask(("start", [room]), ("hold", [holds]), ("gives",), ("most",))[2:], [[room], [room]])

    def test_a_full_and_an_empty_group(self):
        self.assertEqual(last(("start", [5, 5]), ("hold", [5, 0]), ("gives",)), [0])
        self.assertEqual(last(("start", [5, 9]), ("hold", [5, 2]), ("gives",)), [2])
        self.assertEqual(last(("start", [5, 9]), ("hold", [0, 7]), ("gives",)), [2])

    def test_groups_alike(self):
        self.assertEqual(ask(("start", [8] * 10), ("hold", [3] * 10), ("gives",), ("most",))[2:], [[8], [8]])

    def test_the_least_room_anywhere(self):
        for rooms in ([4, 9, 9], [9, 4, 9], [9, 9, 4], [4, 4, 9]):
            self.assertEqual(last(("start", rooms), ("most",)), [4])

    def test_filling_and_drawing_leave_both(self):
        for call in (("fill", 1), ("fill", 100000), ("draw", 2), ("draw", 100000)):
            self.assertEqual(ask(*THREE, call, ("gives",), ("most",))[4:], [[4], [6]])


class ReachAndBleeds(Refusals, unittest.TestCase):
    def test_each_t(self):
        for t, units, after in ((0, 0, [3, 7, 3]), (4, 0, [3, 7, 3]), (5, 1, [3, 6, 3]), (6, 2, [3, 5, 3])):
            self.assertEqual(last(*THREE, ("reach", t)), [units])
            self.assertEqual(last(*THREE, ("bleeds", t)), [units])
            self.assertEqual(held(*THREE, ("bleeds", t)), after)

    def test_it_gives_t_then(self):
        for t in range(7):
            self.assertEqual(last(*THREE, ("bleeds", t), ("gives",)), [max(t, 4)])

    def test_several_bleed(self):
        several = (("start", [9, 9, 9, 20]), ("hold", [8, 1, 7, 3]))
        self.assertEqual(ask(*several, ("gives",), ("reach", 9), ("bleeds", 9))[2:], [[2], [13], [13]])
        self.assertEqual(seen(*several, ("bleeds", 9)), ([1, 1, 1, 3], [8, 8, 8, 17], [9]))

    def test_bled_till_it_is_empty(self):
        corner = (("start", [3, 8]), ("hold", [3, 0]))
        self.assertEqual(ask(*corner, ("bleeds", 3), ("gives",))[2:], [[3], [3]])
        self.assertEqual(held(*corner, ("bleeds", 3)), [0, 0])

    def test_reach_bleeds_nothing(self):
        self.assertEqual(seen(*THREE, ("reach", 6)), seen(*THREE))

    def test_as_much_as_the_most_and_one_more(self):
        for name in ("reach", "bleeds"):
            self.assertEqual(last(*THREE, (name, 6)), [2])
            for t in (7, 8, LARGEST):
                self.refuses(-33, THREE, (name, t))

    def test_large_edges(self):
        large = (("start", [10000] * 10), ("hold", [10000] * 9 + [0]))
        self.assertEqual(ask(*large, ("reach", 10000), ("bleeds", 10000), ("gives",))[2:], [[90000], [90000], [10000]])
        self.refuses(-33, large, ("bleeds", 10001))

    def test_t_of_nought(self):
        corner = (("start", [5, 5]), ("hold", [5, 0]))
        self.assertEqual(ask(*corner, ("reach", 0), ("bleeds", 0), ("gives",))[2:], [[0], [0], [0]])

    def test_one_group(self):
        for holds in (0, 2, 5):
            one = (("start", [5]), ("hold", [holds]))
            self.assertEqual(ask(*one, ("reach", 5), ("bleeds", 5), ("gives",))[2:], [[0], [0], [5]])
            self.refuses(-33, one, ("reach", 6))

    def test_groups_alike(self):
        alike = (("start", [7] * 4), ("hold", [4] * 4))
        self.assertEqual(ask(*alike, ("reach", 7), ("bleeds", 7))[2:], [[0], [0]])
        self.assertEqual(held(*alike, ("bleeds", 7)), [4] * 4)


class Lacks(Refusals, unittest.TestCase):
    def test_what_each_lacks(self):
        self.assertEqual(last(*THREE, ("lacks",)), [3, 3, 1, 4])
        self.assertEqual(last(*THREE, ("fill", 1), ("lacks",)), [3, 2, 0, 3])
        self.assertEqual(last(*THREE, ("bleed", 2, 3), ("lacks",)), [3, 3, 1, 7])

    def test_it_changes_nothing(self):
        self.changes_nothing(THREE, ("lacks",))

    def test_full_and_empty(self):
        self.assertEqual(last(("start", [5, 10000, 1]), ("lacks",)), [3, 5, 10000, 1])
        self.assertEqual(last(("start", [5, 10000, 1]), ("hold", [5, 10000, 0]), ("lacks",)), [3, 0, 0, 1])

    def test_one_group_and_ten(self):
        self.assertEqual(last(("start", [7]), ("hold", [3]), ("lacks",)), [1, 4])
        ten = (("start", [20] * 10), ("hold", list(range(10))))
        self.assertEqual(last(*ten, ("lacks",)), [10, 20, 19, 18, 17, 16, 15, 14, 13, 12, 11])


class WeakestAndFullest(Refusals, unittest.TestCase):
    def test_how_much_then_which(self):
        pack = (("start", [6, 8, 7]), ("hold", [4, 7, 3]))
        self.assertEqual(ask(*pack, ("weakest",), ("fullest",))[2:], [[3, 2], [1, 1]])

    def test_each_place(self):
        for place in range(10):
            weak = [2 if i == place else 9 for i in range(10)]
            self.assertEqual(last(("start", [10] * 10), ("hold", weak), ("weakest",)), [2, place])
            full = [8 if i == place else 3 for i in range(10)]
            self.assertEqual(last(("start", [10] * 10), ("hold", full), ("fullest",)), [2, place])

    def test_the_first_of_several(self):
        self.assertEqual(last(*THREE, ("weakest",)), [3, 0])
        self.assertEqual(last(("start", [9] * 4), ("hold", [5, 2, 4, 2]), ("weakest",)), [2, 1])
        self.assertEqual(last(("start", [9] * 4), ("hold", [5, 8, 4, 8]), ("fullest",)), [1, 1])
        self.assertEqual(last(("start", [9, 8, 7, 6]), ("hold", [5, 6, 5, 4]), ("fullest",)), [2, 1])

    def test_groups_alike(self):
        alike = (("start", [7] * 10), ("hold", [4] * 10))
        self.assertEqual(ask(*alike, ("weakest",), ("fullest",))[2:], [[4, 0], [3, 0]])

    def test_one_may_be_both(self):
        self.assertEqual(ask(("start", [9, 2]), ("hold", [4, 2]), ("weakest",), ("fullest",))[2:], [[2, 1], [0, 1]])

    def test_one_group(self):
        for holds in (0, 3, 5):
            given = ask(("start", [5]), ("hold", [holds]), ("weakest",), ("fullest",))[2:]
            self.assertEqual(given, [[holds, 0], [5 - holds, 0]])

    def test_full_and_empty(self):
        corner = (("start", [10000, 10000]), ("hold", [10000, 0]))
        self.assertEqual(ask(*corner, ("weakest",), ("fullest",))[2:], [[0, 1], [0, 0]])

    def test_they_change_nothing(self):
        self.changes_nothing(THREE, ("weakest",))
        self.changes_nothing(THREE, ("fullest",))


if __name__ == "__main__":
    unittest.main()

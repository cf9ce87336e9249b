"""start, hold, leak."""

import unittest

from asking import LARGEST, Refusals, ask, held, kept, lacks, last, leaks, seen, units

THREE = (("start", [5, 8, 6]), ("leak", [1, 2, 3]), ("hold", [2, 7, 3]), ("fill", 1), ("draw", 2), ("bleed", 1, 1))
# Every way in which units come and go: none of the six numbers of units is 0 then.
ALL_MOVED = THREE + (("fill", 1), ("bleeds", 5), ("days", 1), ("swap", 0, 6, 4))


class Start(Refusals, unittest.TestCase):
    def test_answers_how_many_groups(self):
        for count in range(1, 11):
            self.assertEqual(last(("start", [9] * count)), [count])
            self.assertEqual(last(("start", [9] * count), ("evens",)), [count] + [0] * count)

    def test_groups_are_empty_and_have_these_rooms(self):
        self.assertEqual(seen(("start", [5, 8, 6])), ([0, 0, 0], [5, 8, 6], [5]))

    def test_how_many_rooms(self):
        for count in (0, 11, 12, 59, 60):
            self.refuses(-22, THREE, ("start", [5] * count))

    def test_edges_of_a_room(self):
        for room in (1, 2, 9999, 10000):
            self.assertEqual(ask(("start", [room]), ("most",)), [[1], [room]])
        for room in (0, 10001, LARGEST):
            for place in range(3):
                rooms = [5, 5, 5]
                rooms[place] = room
                self.refuses(-22, THREE, ("start", rooms))

    def test_a_wrong_room_among_ten(self):
        self.assertEqual(last(("start", [10000] * 10)), [10])
        self.refuses(-22, THREE, ("start", [10000] * 9 + [10001]))
        self.refuses(-22, THREE, ("start", [0] + [10000] * 9))

    def test_a_second_start_is_as_a_first(self):
        self.assertEqual(kept(*THREE, ("start", [4, 9])), kept(("start", [4, 9])))
        self.assertEqual(seen(*THREE, ("start", [4, 9])), ([0, 0], [4, 9], [4]))
        self.assertEqual(leaks(*THREE, ("start", [4, 9])), [0, 0])

    def test_a_second_start_begins_the_units_anew(self):
        self.assertNotIn(0, units(*ALL_MOVED))
        self.assertEqual(units(*ALL_MOVED, ("start", [4, 9])), [0, 0, 0, 0, 0, 0])
        self.assertEqual(kept(*ALL_MOVED, ("start", [4, 9])), kept(("start", [4, 9])))
        self.assertEqual(last(*ALL_MOVED, ("start", [4, 9]), ("hold", [4, 9]), ("days", 1000)), [0])

    def test_a_refused_second_start_leaves_the_units(self):
        for rooms in ([], [0, 5, 5], [5] * 11):
            self.refuses(-22, ALL_MOVED, ("start", rooms))


class Hold(Refusals, unittest.TestCase):
    def test_answers_how_many_units(self):
        self.assertEqual(last(("start", [5, 8, 6]), ("hold", [2, 7, 3])), [12])
        self.assertEqual(last(("start", [10000] * 10), ("hold", [10000] * 10)), [100000])
        self.assertEqual(last(("start", [5]), ("hold", [0])), [0])

    def test_groups_hold_these(self):
        self.assertEqual(seen(("start", [5, 8, 6]), ("hold", [2, 7, 3])), ([2, 7, 3], [3, 1, 3], [5]))

    def test_replaces_what_was_held(self):
        self.assertEqual(held(*THREE, ("hold", [5, 0, 1])), [5, 0, 1])

    def test_how_many_there_are(self):
        for count in (0, 1, 2, 4, 10, 11, 60):
            self.refuses(-22, THREE, ("hold", [1] * count))

    def test_ten_groups(self):
        ten = (("start", [3] * 10),)
        self.assertEqual(last(*ten, ("hold", [1] * 10)), [10])
        self.refuses(-22, ten, ("hold", [1] * 9))
        self.refuses(-22, ten, ("hold", [1] * 11))

    def test_as_much_as_its_room_and_one_more(self):
        self.assertEqual(last(*THREE, ("hold", [5, 8, 6])), [19])
        for wrong in ([6, 8, 6], [5, 9, 6], [5, 8, 7], [LARGEST, 0, 0], [0, 0, LARGEST]):
            self.refuses(-22, THREE, ("hold", wrong))

    def test_it_is_all_there_ever_was_put_in(self):
        self.assertNotIn(0, units(*ALL_MOVED))
        self.assertEqual(units(*ALL_MOVED, ("hold", [1, 2, 3])), [6, 6, 0, 0, 0, 0])
        self.assertEqual(units(*ALL_MOVED, ("hold", [0, 0, 0])), [0, 0, 0, 0, 0, 0])

    def test_a_refused_hold_leaves_the_units(self):
        for wrong in ([1, 2], [1, 2, 3, 4], [7, 0, 0], [0, 9, 0]):
            self.refuses(-22, ALL_MOVED, ("hold", wrong))

    def test_leaks_stay(self):
        self.assertEqual(leaks(*THREE, ("hold", [0, 0, 0])), [1, 2, 3])

    def test_the_room_is_that_of_the_group_that_is_there_now(self):
        swapped = THREE + (("swap", 0, 9, 0), ("swap", 1, 2, 2))
        self.assertEqual(last(*swapped, ("hold", [9, 2, 6])), [17])
        self.refuses(-22, swapped, ("hold", [9, 3, 6]))
        self.refuses(-22, swapped, ("hold", [10, 2, 6]))


class Leak(Refusals, unittest.TestCase):
    def test_answers_nought(self):
        for amounts in ([0, 0, 0], [1, 2, 3], [1000, 1000, 1000], [1000, 0, 999]):
            self.assertEqual(last(*THREE, ("leak", amounts)), [0])
            self.assertEqual(leaks(*THREE, ("leak", amounts)), amounts)

    def test_nothing_is_lost_at_once(self):
        self.assertEqual(seen(*THREE, ("leak", [1000, 1000, 1000])), seen(*THREE))

    def test_how_many_there_are(self):
        for count in (0, 1, 2, 4, 10, 11, 60):
            self.refuses(-22, THREE, ("leak", [1] * count))

    def test_above_a_thousand(self):
        for wrong in ([1001, 0, 0], [0, 1001, 0], [0, 0, 1001], [0, LARGEST, 0]):
            self.refuses(-22, THREE, ("leak", wrong))

    def test_a_leak_may_be_above_its_room(self):
        self.assertEqual(last(("start", [1]), ("leak", [1000])), [0])
        self.assertEqual(lacks(("start", [1]), ("leak", [1000])), [1])


if __name__ == "__main__":
    unittest.main()

"""swap, gain, best."""

import itertools
import unittest

from asking import LARGEST, Refusals, ask, held, kept, last, leaks, looks, units

THREE = (("start", [5, 8, 6]), ("leak", [1, 2, 3]), ("hold", [2, 7, 3]))
TEN = (("start", [10000] * 10), ("hold", [5000] * 10))


class Swap(Refusals, unittest.TestCase):
    def test_answers_what_the_old_one_held(self):
        for group, holds in enumerate([2, 7, 3]):
            self.assertEqual(last(*THREE, ("swap", group, 9, 1)), [holds])
        self.assertEqual(last(("start", [5]), ("swap", 0, 9, 1)), [0])

    def test_it_is_there_without_a_leak(self):
        self.assertEqual(looks(*THREE, ("swap", 1, 9, 4)), [[2, 5, 1], [4, 9, 0], [3, 6, 3]])
        self.assertEqual(looks(*THREE, ("swap", 0, 1, 0)), [[0, 1, 0], [7, 8, 2], [3, 6, 3]])
        self.assertEqual(last(*THREE, ("swap", 1, 9, 4), ("days", 1)), [4])

    def test_the_old_counts_as_drawn_the_new_as_put_in(self):
        self.assertEqual(units(*THREE, ("swap", 1, 9, 4)), [9, 16, 0, 7, 0, 0])
        self.assertEqual(units(*THREE, ("draw", 1), ("swap", 0, 3, 3)), [11, 15, 0, 4, 0, 0])
        self.assertEqual(units(*THREE, ("swap", 0, 5, 2)), [12, 14, 0, 2, 0, 0])

    def test_it_gives_with_the_new_one(self):
        self.assertEqual(ask(*THREE, ("swap", 0, 9, 3), ("state",), ("lacks",))[4:], [[3, 4, 6], [3, 6, 1, 3]])

    def test_no_such_group(self):
        for group in (3, 4, 10, LARGEST):
            self.refuses(-2, THREE, ("swap", group, 5, 1))
        self.assertEqual(ask(*TEN, ("swap", 9, 1, 1), ("swap", 10, 1, 1))[2:], [[5000], [-2]])

    def test_edges_of_a_room(self):
        for room in (1, 2, 9999, 10000):
            self.assertEqual(ask(*THREE, ("swap", 2, room, 0), ("look", 2))[3:], [[3], [0, room, 0]])
        for room in (0, 10001, LARGEST):
            self.refuses(-22, THREE, ("swap", 2, room, 0))
        self.refuses(-22, THREE, ("swap", 2, 10001, 10001))

    def test_a_room_below_what_is_held(self):
        for room in (1, 5, 10000):
            self.assertEqual(ask(*THREE, ("swap", 2, room, room), ("look", 2))[3:], [[3], [room, room, 0]])
            self.refuses(-22, THREE, ("swap", 2, room, room + 1))
            self.refuses(-22, THREE, ("swap", 2, room, LARGEST))
        # What the old one held is no bound to the new one's room.
        self.assertEqual(ask(*THREE, ("swap", 1, 1, 1), ("look", 1))[3:], [[7], [1, 1, 0]])

    def test_order_of_refusals(self):
        for room, holds in ((0, 0), (10001, 0), (5, 6), (LARGEST, LARGEST)):
            self.refuses(-2, THREE, ("swap", 3, room, holds))

    def test_one_group(self):
        one = (("start", [5]), ("hold", [5]), ("leak", [1]))
        self.assertEqual(ask(*one, ("swap", 0, 3, 0), ("state",), ("units",))[3:], [[5], [1, 3, 3], [0, 5, 0, 5, 0, 0]])

    def test_twice(self):
        self.assertEqual(ask(*THREE, ("swap", 0, 9, 8), ("swap", 0, 4, 4), ("units",))[3:],
                         [[2], [8], [14, 24, 0, 10, 0, 0]])

    def test_its_leak_may_be_told_again(self):
        self.assertEqual(leaks(*THREE, ("swap", 0, 9, 8), ("leak", [4, 5, 6])), [4, 5, 6])


class Gain(Refusals, unittest.TestCase):
    def test_each_room(self):
        for group, room, more in (
                (0, 10000, 1), (0, 7, 1), (0, 6, 1), (0, 5, 0), (0, 4, -1), (0, 1, -4),
                (1, 10000, 0), (1, 5, 0), (1, 4, -1), (1, 1, -4), (2, 6, 0), (2, 3, -2)):
            self.assertEqual(last(*THREE, ("gain", group, room)), [more], (group, room))

    def test_it_changes_nothing(self):
        for room in (1, 5, 10000):
            self.changes_nothing(THREE, ("gain", 0, room))

    def test_where_two_are_least_one_brings_nothing(self):
        self.assertEqual(ask(("start", [5, 9, 5]), ("gain", 0, 9), ("gain", 2, 9), ("gain", 2, 4))[1:],
                         [[0], [0], [-1]])

    def test_as_far_as_it_goes(self):
        self.assertEqual(last(("start", [10000]), ("gain", 0, 1)), [-9999])
        self.assertEqual(last(("start", [1]), ("gain", 0, 10000)), [9999])
        self.assertEqual(last(("start", [10000] * 10), ("gain", 9, 1)), [-9999])

    def test_less_may_look_like_a_refusal(self):
        for less in (1, 2, 11, 12, 22, 33, 99):
            self.assertEqual(last(("start", [100, 200]), ("gain", 1, 100 - less)), [-less])

    def test_a_room_below_what_is_held(self):
        self.assertEqual(last(*THREE, ("gain", 1, 6)), [0])
        self.assertEqual(last(*THREE, ("gain", 1, 3)), [-2])
        self.assertEqual(kept(*THREE, ("gain", 1, 3)), kept(*THREE))

    def test_whatever_is_held(self):
        for holds in ([0, 0, 0], [5, 8, 6], [5, 0, 0]):
            self.assertEqual(last(*THREE, ("hold", holds), ("gain", 0, 9)), [1])

    def test_no_such_group(self):
        for group in (3, 10, LARGEST):
            for room in (1, 5, 0, 10001, LARGEST):
                self.refuses(-2, THREE, ("gain", group, room))

    def test_a_room_that_is_not_as_told(self):
        for room in (0, 10001, LARGEST):
            for group in (0, 2):
                self.refuses(-22, THREE, ("gain", group, room))


class Best(Refusals, unittest.TestCase):
    def test_which_then_the_most_it_could_give_so(self):
        for room in (6, 7, 10000):
            self.assertEqual(last(*THREE, ("best", room)), [0, 6])
        self.assertEqual(last(("start", [9, 8, 3]), ("best", 4)), [2, 4])
        self.assertEqual(last(("start", [9, 8, 3]), ("best", 8)), [2, 8])
        self.assertEqual(last(("start", [9, 8, 3]), ("best", 9)), [2, 8])

    def test_none_brings_anything(self):
        for room in (1, 4, 5):
            self.refuses(-33, THREE, ("best", room))
        # Two groups have the least room: exchanging either leaves the other.
        self.refuses(-33, (("start", [5, 9, 5]),), ("best", 10000))
        self.refuses(-33, (("start", [10000] * 10),), ("best", 10000))

    def test_one_group(self):
        self.assertEqual(last(("start", [5]), ("best", 6)), [0, 6])
        self.assertEqual(last(("start", [1]), ("best", 10000)), [0, 10000])
        self.refuses(-33, (("start", [5]),), ("best", 5))
        self.refuses(-33, (("start", [5]),), ("best", 1))

    def test_groups_alike(self):
        for room in (1, 7, 8, 10000):
            self.refuses(-33, (("start", [7] * 4),), ("best", room))

    def test_a_room_that_is_not_as_told(self):
        for room in (0, 10001, LARGEST):
            self.refuses(-22, THREE, ("best", room))
            # -22 is named ahead of -33.
            self.refuses(-22, (("start", [7, 7]),), ("best", room))

    def test_it_changes_nothing(self):
        self.changes_nothing(THREE, ("best", 9))

    def test_a_room_below_what_is_held(self):
        self.assertEqual(last(("start", [9, 5]), ("hold", [9, 5]), ("best", 7)), [1, 7])
        self.refuses(-33, (("start", [9, 5]), ("hold", [9, 5])), ("best", 4))

    def test_the_first_of_those_that_bring_most(self):
        for count in (1, 2, 3):
            for rooms in itertools.product(range(1, 5), repeat=count):
                for room in range(1, 6):
                    mosts = [min(rooms[:i] + (room,) + rooms[i + 1:]) for i in range(count)]
                    most = max(mosts)
                    wanted = [mosts.index(most), most] if most > min(rooms) else [-33]
                    given = ask(("start", list(rooms)), ("best", room), *[("gain", i, room) for i in range(count)])
                    self.assertEqual(given[1], wanted, (rooms, room))
                    self.assertEqual(given[2:], [[own - min(rooms)] for own in mosts], (rooms, room))

    def test_swapped_so_it_could_give_that(self):
        self.assertEqual(ask(*THREE, ("best", 7), ("swap", 0, 7, 0), ("most",))[3:], [[0, 6], [2], [6]])
        self.assertEqual(held(*THREE, ("swap", 0, 7, 0)), [0, 7, 3])


if __name__ == "__main__":
    unittest.main()

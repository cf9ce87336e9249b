"""units, look, state."""

import unittest

from asking import LARGEST, Refusals, ask, last, looks, units

THREE = (("start", [6, 8, 7]), ("leak", [1, 3, 0]), ("hold", [3, 7, 3]))
LARGE = (("start", [10000] * 10), ("hold", [10000] * 10), ("leak", [1000] * 10))


class Units(Refusals, unittest.TestCase):
    def test_a_new_pack(self):
        self.assertEqual(units(("start", [6, 8, 7])), [0, 0, 0, 0, 0, 0])

    def test_each_in_its_place(self):
        for calls, wanted in (
                ((), [13, 13, 0, 0, 0, 0]),
                ((("fill", 1),), [16, 13, 3, 0, 0, 0]),
                ((("draw", 2),), [7, 13, 0, 6, 0, 0]),
                ((("bleed", 1, 4),), [9, 13, 0, 0, 4, 0]),
                ((("days", 1),), [9, 13, 0, 0, 0, 4]),
                ((("swap", 0, 5, 1),), [11, 14, 0, 3, 0, 0]),
                ((("bleeds", 6),), [11, 13, 0, 0, 2, 0]),
                ((("even",),), [9, 13, 0, 0, 4, 0])):
            self.assertEqual(units(*THREE, *calls), wanted, calls)

    def test_of_all_groups_together(self):
        calls = (("fill", 1), ("draw", 2), ("bleed", 1, 4), ("days", 1), ("swap", 0, 5, 3), ("fill", 9))
        self.assertEqual(ask(*THREE, *calls, ("units",))[3:],
                         [[1], [2], [2], [3], [1], [2], [11, 16, 9, 7, 4, 3]])

    def test_what_really_came_and_went(self):
        self.assertEqual(units(*THREE, ("fill", 100000)), [16, 13, 3, 0, 0, 0])
        self.assertEqual(units(*THREE, ("draw", 100000)), [4, 13, 0, 9, 0, 0])
        self.assertEqual(units(*THREE, ("days", 1000)), [3, 13, 0, 0, 0, 10])

    def test_large_ones(self):
        self.assertEqual(units(*LARGE), [100000, 100000, 0, 0, 0, 0])
        moved = (("draw", 100000), ("fill", 100000)) * 90
        self.assertEqual(units(*LARGE, *moved), [100000, 100000, 9000000, 9000000, 0, 0])
        self.assertEqual(units(*LARGE, *moved, ("days", 10)), [0, 100000, 9000000, 9000000, 0, 100000])

    def test_a_hold_begins_them_anew(self):
        self.assertEqual(units(*THREE, ("fill", 1), ("days", 1), ("hold", [1, 0, 4])), [5, 5, 0, 0, 0, 0])

    def test_a_start_begins_them_anew(self):
        self.assertEqual(units(*THREE, ("fill", 1), ("days", 1), ("start", [9])), [0, 0, 0, 0, 0, 0])

    def test_what_only_tells_moves_nothing(self):
        for call in (("evens",), ("reach", 6), ("gives",), ("most",), ("lacks",), ("weakest",), ("fullest",),
                     ("when", 5), ("gain", 0, 9), ("best", 9), ("units",), ("look", 1), ("state",)):
            self.assertGreaterEqual(last(*THREE, call)[0], 0)
            self.changes_nothing(THREE, call)


class Look(Refusals, unittest.TestCase):
    def test_holds_room_and_leak(self):
        self.assertEqual(looks(*THREE), [[3, 6, 1], [7, 8, 3], [3, 7, 0]])
        self.assertEqual(looks(*THREE, ("fill", 1), ("days", 1)), [[3, 6, 1], [5, 8, 3], [4, 7, 0]])

    def test_a_new_pack(self):
        self.assertEqual(looks(("start", [6, 8])), [[0, 6, 0], [0, 8, 0]])

    def test_first_and_last_of_ten(self):
        self.assertEqual(ask(*LARGE, ("look", 0), ("look", 9), ("look", 10))[3:],
                         [[10000, 10000, 1000], [10000, 10000, 1000], [-2]])

    def test_no_such_group(self):
        for group in (3, 4, 10, LARGEST):
            self.refuses(-2, THREE, ("look", group))

    def test_one_group(self):
        self.assertEqual(ask(("start", [4]), ("look", 0), ("look", 1))[1:], [[0, 4, 0], [-2]])

    def test_groups_of_the_newest_start(self):
        self.assertEqual(ask(*THREE, ("start", [4]), ("look", 0), ("look", 1), ("look", 2))[4:],
                         [[0, 4, 0], [-2], [-2]])


class State(Refusals, unittest.TestCase):
    def test_groups_gives_and_most(self):
        self.assertEqual(last(*THREE, ("state",)), [3, 4, 6])
        self.assertEqual(last(*THREE, ("bleeds", 5), ("state",)), [3, 5, 6])
        self.assertEqual(last(*LARGE, ("state",)), [10, 10000, 10000])

    def test_a_new_pack(self):
        self.assertEqual(last(("start", [6, 8]), ("state",)), [2, 6, 6])

    def test_one_group(self):
        self.assertEqual(last(("start", [4]), ("hold", [3]), ("state",)), [1, 4, 4])

    def test_a_full_and_an_empty_group(self):
        self.assertEqual(last(("start", [5, 5]), ("hold", [5, 0]), ("state",)), [2, 0, 5])

    def test_as_the_calls_of_their_own_tell(self):
        for calls in ((), (("fill", 1),), (("days", 2),), (("swap", 2, 5, 5),), (("bleed", 0, 3),)):
            state, gives, most = ask(*THREE, *calls, ("state",), ("gives",), ("most",))[-3:]
            self.assertEqual(state, [3] + gives + most)


if __name__ == "__main__":
    unittest.main()

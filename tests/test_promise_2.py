"""fill, draw, bleed, even, evens."""

import unittest

from asking import LARGEST, Refusals, ask, held, last, seen

THREE = (("start", [5, 8, 6]), ("leak", [1, 2, 3]), ("hold", [2, 4, 3]))
LARGE = (("start", [10000] * 10), ("hold", [5000] * 10))


class Fill(Refusals, unittest.TestCase):
    def test_each_gets_n(self):
        self.assertEqual(last(*THREE, ("fill", 2)), [2])
        self.assertEqual(seen(*THREE, ("fill", 2)), ([4, 6, 5], [1, 2, 1], [5]))

    def test_till_the_first_is_full(self):
        for n in (3, 4, 99999, 100000):
            self.assertEqual(last(*THREE, ("fill", n)), [3])
            self.assertEqual(held(*THREE, ("fill", n)), [5, 7, 6])

    def test_full_it_gets_none(self):
        full = (("start", [5, 8]), ("hold", [5, 0]))
        self.assertEqual(last(*full, ("fill", 1)), [0])
        self.assertEqual(seen(*full, ("fill", 1)), seen(*full))

    def test_edges_of_n(self):
        self.assertEqual(last(*LARGE, ("fill", 1)), [1])
        self.assertEqual(last(*LARGE, ("fill", 5000)), [5000])
        self.assertEqual(last(*LARGE, ("fill", 100000)), [5000])
        for n in (0, 100001, LARGEST):
            self.refuses(-22, THREE, ("fill", n))

    def test_one_group(self):
        self.assertEqual(ask(("start", [10000]), ("fill", 9999), ("fill", 100000), ("fill", 1)),
                         [[1], [9999], [1], [0]])


class Draw(Refusals, unittest.TestCase):
    def test_each_gives_n(self):
        self.assertEqual(last(*THREE, ("draw", 1)), [1])
        self.assertEqual(seen(*THREE, ("draw", 1)), ([1, 3, 2], [4, 5, 4], [5]))

    def test_till_the_first_is_empty(self):
        for n in (2, 3, 99999, 100000):
            self.assertEqual(last(*THREE, ("draw", n)), [2])
            self.assertEqual(held(*THREE, ("draw", n)), [0, 2, 1])

    def test_empty_it_gives_none(self):
        empty = (("start", [5, 8]), ("hold", [5, 0]))
        self.assertEqual(last(*empty, ("draw", 1)), [0])
        self.assertEqual(seen(*empty, ("draw", 1)), seen(*empty))

    def test_edges_of_n(self):
        self.assertEqual(last(*LARGE, ("draw", 1)), [1])
        self.assertEqual(last(*LARGE, ("draw", 5000)), [5000])
        self.assertEqual(last(*LARGE, ("draw", 100000)), [5000])
        for n in (0, 100001, LARGEST):
            self.refuses(-22, THREE, ("draw", n))

    def test_one_group(self):
        self.assertEqual(ask(("start", [10000]), ("hold", [10000]), ("draw", 9999), ("draw", 100000), ("draw", 1)),
                         [[1], [10000], [9999], [1], [0]])


class Bleed(Refusals, unittest.TestCase):
    def test_that_group_alone_holds_fewer(self):
        self.assertEqual(last(*THREE, ("bleed", 1, 3)), [1])
        self.assertEqual(seen(*THREE, ("bleed", 1, 3)), ([2, 1, 3], [3, 7, 3], [5]))

    def test_all_it_holds_and_one_more(self):
        for group, holds in enumerate([2, 4, 3]):
            self.assertEqual(last(*THREE, ("bleed", group, holds)), [0])
            self.refuses(-12, THREE, ("bleed", group, holds + 1))
            self.refuses(-12, THREE, ("bleed", group, LARGEST))

    def test_none(self):
        for group in range(3):
            self.refuses(-22, THREE, ("bleed", group, 0))

    def test_no_such_group(self):
        for group in (3, 4, 10, LARGEST):
            self.refuses(-2, THREE, ("bleed", group, 1))

    def test_first_and_last_of_ten(self):
        self.assertEqual(ask(*LARGE, ("bleed", 0, 5000), ("bleed", 9, 1))[2:], [[0], [4999]])
        self.refuses(-2, LARGE, ("bleed", 10, 1))

    def test_order_of_refusals(self):
        self.refuses(-2, THREE, ("bleed", 3, 0))
        self.refuses(-2, THREE, ("bleed", 3, LARGEST))
        self.refuses(-22, (("start", [5]),), ("bleed", 0, 0))
        self.refuses(-12, (("start", [5]),), ("bleed", 0, 1))


class Even(Refusals, unittest.TestCase):
    def test_all_lack_as_much_as_the_one_that_lacks_most(self):
        self.assertEqual(last(*THREE, ("evens",)), [3, 1, 0, 1])
        self.assertEqual(last(*THREE, ("even",)), [2])
        self.assertEqual(seen(*THREE, ("even",)), ([1, 4, 2], [4, 4, 4], [5]))

    def test_evens_bleeds_nothing(self):
        self.assertEqual(seen(*THREE, ("evens",)), seen(*THREE))

    def test_even_twice(self):
        self.assertEqual(ask(*THREE, ("even",), ("even",), ("evens",))[3:], [[2], [0], [3, 0, 0, 0]])

    def test_it_gives_the_most_then(self):
        self.assertEqual(ask(*THREE, ("even",), ("gives",), ("most",))[4:], [[5], [5]])

    def test_just_what_is_held_and_one_more(self):
        just = (("start", [4, 6]), ("hold", [3, 2]))
        self.assertEqual(ask(*just, ("evens",), ("even",))[2:], [[2, 3, 0], [3]])
        self.assertEqual(held(*just, ("even",)), [0, 2])
        more = (("start", [4, 6]), ("hold", [3, 1]))
        self.refuses(-33, more, ("even",))
        self.assertEqual(last(*more, ("evens",)), [2, 4, 0])

    def test_one_of_several_holds_less(self):
        several = (("start", [9, 9, 2, 9]), ("hold", [6, 9, 2, 7]))
        self.assertEqual(last(*several, ("evens",)), [4, 0, 3, 3, 1])
        self.refuses(-33, several, ("even",))

    def test_empty_groups_of_other_rooms(self):
        self.refuses(-33, (("start", [5, 6]),), ("even",))
        self.assertEqual(last(("start", [5, 6]), ("evens",)), [2, 1, 0])

    def test_one_group(self):
        for holds in (0, 3, 5):
            one = (("start", [5]), ("hold", [holds]))
            self.assertEqual(ask(*one, ("evens",), ("even",))[2:], [[1, 0], [0]])
            self.assertEqual(held(*one, ("even",)), [holds])

    def test_groups_alike(self):
        alike = (("start", [7] * 10), ("hold", [4] * 10))
        self.assertEqual(ask(*alike, ("evens",), ("even",))[2:], [[10] + [0] * 10, [0]])

    def test_full_and_empty(self):
        corner = (("start", [10000, 10000]), ("hold", [10000, 0]))
        self.assertEqual(ask(*corner, ("evens",), ("even",), ("evens",))[2:], [[2, 10000, 0], [10000], [2, 0, 0]])


if __name__ == "__main__":
    unittest.main()

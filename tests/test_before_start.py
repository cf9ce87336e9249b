import unittest

from asking import LARGEST, NUMBER_OF, ask

OTHERS = (
    ("hold", [1]), ("hold", []), ("hold", [0] * 60), ("leak", [1]), ("leak", []), ("leak", [LARGEST] * 60),
    ("fill", 1), ("fill", 0), ("fill", LARGEST), ("draw", 1), ("draw", 0), ("draw", LARGEST),
    ("bleed", 0, 1), ("bleed", 0, 0), ("bleed", LARGEST, LARGEST), ("even",), ("evens",),
    ("reach", 0), ("reach", LARGEST), ("bleeds", 0), ("bleeds", LARGEST), ("gives",), ("most",),
    ("lacks",), ("weakest",), ("fullest",), ("days", 1), ("days", 0), ("days", LARGEST), ("when", 0), ("when", LARGEST),
    ("swap", 0, 1, 1), ("swap", 0, 0, 0), ("swap", LARGEST, LARGEST, LARGEST), ("gain", 0, 1), ("gain", 0, 0),
    ("gain", LARGEST, LARGEST), ("best", 1), ("best", 0), ("best", LARGEST), ("units",), ("look", 0),
    ("look", LARGEST), ("state",),
)


class BeforeStart(unittest.TestCase):
    def test_no_call_is_left_out(self):
        self.assertEqual({call[0] for call in OTHERS}, set(NUMBER_OF) - {"start"})

    def test_each_other_call_alone(self):
        for call in OTHERS:
            self.assertEqual(ask(call), [[-11]], call)

    def test_all_other_calls_behind_one_another(self):
        self.assertEqual(ask(*OTHERS), [[-11]] * len(OTHERS))

    def test_a_refused_start_is_none(self):
        for rooms in ([], [0], [10001], [5] * 11, [5] * 60, [3, 0]):
            for call in OTHERS:
                self.assertEqual(ask(("start", rooms), call), [[-22], [-11]], (rooms, call))

    def test_a_start_after_refused_ones_counts(self):
        self.assertEqual(ask(("gives",), ("start", [0]), ("most",), ("start", [7]), ("most",)),
                         [[-11], [-22], [-11], [1], [7]])


if __name__ == "__main__":
    unittest.main()

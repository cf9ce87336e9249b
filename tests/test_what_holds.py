"""What holds over the whole program: of every small pack, and after every call of many lists."""

import itertools
import unittest

from asking import ask, held, kept, last
from many import lists_of_calls
from slow import slowly_filled, slowly_given


def small_packs():
    """Every pack of 1 to 3 groups with rooms of 1 to 3, whatever it holds."""
    groups = [(room, holds) for room in range(1, 4) for holds in range(room + 1)]
    for count in (1, 2, 3):
        for chosen in itertools.product(groups, repeat=count):
            yield [room for room, holds in chosen], [holds for room, holds in chosen]


def least_bled(rooms, holds):
    """For each t, the fewest units that any way of bleeding takes to give t or more."""
    fewest = {}
    for after in itertools.product(*[range(own + 1) for own in holds]):
        bled = sum(holds) - sum(after)
        for t in range(slowly_given(rooms, list(after)) + 1):
            fewest[t] = min(bled, fewest.get(t, bled))
    return fewest


class EverySmallPack(unittest.TestCase):
    def test_gives_and_most(self):
        for rooms, holds in small_packs():
            given = ask(("start", rooms), ("hold", holds), ("gives",), ("most",))[2:]
            self.assertEqual(given, [[slowly_given(rooms, holds)], [min(rooms)]], (rooms, holds))

    def test_no_less_bled_will_do(self):
        for rooms, holds in small_packs():
            pack = (("start", rooms), ("hold", holds))
            fewest = least_bled(rooms, holds)
            for t in range(5):
                wanted = [fewest.get(t, -33)]
                self.assertEqual(last(*pack, ("reach", t)), wanted, (rooms, holds, t))
                bled, given = ask(*pack, ("bleeds", t), ("gives",))[2:]
                self.assertEqual(bled, wanted, (rooms, holds, t))
                self.assertTrue(bled == [-33] or given[0] >= t, (rooms, holds, t))

    def test_even_is_as_evens_tells(self):
        for rooms, holds in small_packs():
            pack = (("start", rooms), ("hold", holds))
            lacks = [room - own for room, own in zip(rooms, holds)]
            amounts = [max(lacks) - lack for lack in lacks]
            refused = any(amount > own for own, amount in zip(holds, amounts))
            told, bled, given = ask(*pack, ("evens",), ("even",), ("gives",))[2:]
            self.assertEqual(told, [len(rooms)] + amounts)
            self.assertEqual(bled, [-33] if refused else [sum(amounts)])
            if not refused:
                self.assertEqual(given, [min(rooms)])

    def test_at_once_or_one_behind_another(self):
        for rooms, holds in small_packs():
            pack = (("start", rooms), ("hold", holds), ("leak", [1, 2, 1][:len(rooms)]))
            for name in ("fill", "draw", "days"):
                for first, second in ((1, 1), (1, 2), (2, 1)):
                    apart = ask(*pack, (name, first), (name, second))[3:]
                    self.assertEqual([apart[0][0] + apart[1][0]], last(*pack, (name, first + second)))
                    self.assertEqual(kept(*pack, (name, first), (name, second)),
                                     kept(*pack, (name, first + second)))

    def test_till_the_first_is_full(self):
        for rooms, holds in small_packs():
            self.assertEqual(held(("start", rooms), ("hold", holds), ("fill", 9)), slowly_filled(rooms, holds))


LOOKING = (("units",), ("state",), ("lacks",), ("weakest",), ("fullest",)) + tuple(("look", i) for i in range(10))
LENGTH = 12


def after_every_call():
    """For many lists: each call, its answer, and what is seen of the pack then."""
    for largest in (1, 9, 10000):
        for calls in lists_of_calls(300, LENGTH, largest):
            given = iter(ask(*[step for call in calls for step in (call, *LOOKING)]))
            steps = [(call, next(given), [next(given) for look in LOOKING]) for call in calls]
            yield calls, [step for step in steps if step[2][0] != [-11]]


class AfterEveryCall(unittest.TestCase):
    @classmethod
    def setUpClass(cls):
        cls.steps = [step for calls, steps in after_every_call() for step in steps]

    def test_nothing_is_lost(self):
        for call, answer, (units, *rest) in self.steps:
            holds, put_in, filled, drawn, bled, leaked = units
            self.assertEqual(put_in + filled, holds + drawn + bled + leaked, call)
            self.assertGreaterEqual(min(units), 0, call)

    def test_no_group_holds_more_than_its_room(self):
        for call, answer, (units, state, lacks, weakest, fullest, *looks) in self.steps:
            groups = looks[:state[0]]
            self.assertEqual(looks[state[0]:], [[-2]] * (10 - state[0]), call)
            self.assertTrue(all(0 <= holds <= room <= 10000 for holds, room, leak in groups), call)
            self.assertEqual(units[0], sum(holds for holds, room, leak in groups), call)
            self.assertEqual(lacks, [len(groups)] + [room - holds for holds, room, leak in groups], call)

    def test_it_gives_no_more_than_its_least_room(self):
        alike = 0
        for call, answer, (units, state, lacks, weakest, fullest, *looks) in self.steps:
            least = min(room for holds, room, leak in looks[:state[0]])
            self.assertEqual(state[2], least, call)
            self.assertLessEqual(state[1], least, call)
            self.assertEqual(state[1], weakest[0] + fullest[0], call)
            if len(set(lacks[1:])) == 1:
                alike += 1
                self.assertEqual(state[1], least, call)
        self.assertGreater(alike, 100)

    def test_looking_changes_no_answer(self):
        for calls, steps in after_every_call():
            answered = [answer for call, answer, looks in steps]
            self.assertEqual(ask(*calls)[len(calls) - len(answered):], answered, calls)

    def test_a_start_and_a_hold_begin_the_units_anew(self):
        for call, answer, (units, *rest) in self.steps:
            if call[0] == "start" and answer[0] > 0:
                self.assertEqual(units, [0] * 6, call)
            if call[0] == "hold" and answer[0] >= 0:
                self.assertEqual(units, [sum(call[1]), sum(call[1]), 0, 0, 0, 0], call)


class AtOnceOrOneBehindAnother(unittest.TestCase):
    def same(self, before, name, parts):
        whole = last(*before, (name, sum(parts)))
        if whole == [-11]:
            return
        apart = [(name, part) for part in parts]
        self.assertEqual(sum(given[0] for given in ask(*before, *apart)[len(before):]), whole[0], (before, parts))
        self.assertEqual(kept(*before, *apart), kept(*before, (name, sum(parts))), (before, parts))

    def test_n_days_are_n_times_one_day(self):
        for calls in lists_of_calls(150, 20, 30):
            for n in (2, 5, 40):
                self.same(calls, "days", [1] * n)

    def test_any_parts(self):
        for calls in lists_of_calls(150, 20, 30):
            for name in ("days", "fill", "draw"):
                self.same(calls, name, [3, 1, 7])
        for calls in lists_of_calls(40, 20, 10000):
            self.same(calls, "days", [999, 1])
            self.same(calls, "days", [1] * 100 + [900])
            for name in ("fill", "draw"):
                self.same(calls, name, [1, 4000, 95999])

    def test_a_thousand_days_are_a_thousand_times_one_day(self):
        # More calls than one list may have: each list begins with what the one before it left.
        rooms, losses = [10000, 9000, 800, 7], [1, 13, 0, 1000]
        holds, lost = [10000, 8999, 800, 7], 0
        for part in range(10):
            before = (("start", rooms), ("hold", holds), ("leak", losses))
            given = ask(*before, *[("days", 1)] * 100, *[("look", i) for i in range(4)])
            lost += sum(answer[0] for answer in given[3:103])
            holds = [look[0] for look in given[103:]]
        whole = ask(("start", rooms), ("hold", [10000, 8999, 800, 7]), ("leak", losses), ("days", 1000),
                    *[("look", i) for i in range(4)])[3:]
        self.assertEqual(whole, [[lost]] + [[own, room, leak] for own, room, leak in zip(holds, rooms, losses)])
        self.assertEqual(lost, 1000 + 8999 + 7)


if __name__ == "__main__":
    unittest.main()

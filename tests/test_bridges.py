"""Promise [N1]: counterheld.bridges."""

import random
import unittest

from counterheld.bridges import BadBridge, brought, check_bridge, opposite_bridge, put_behind
from tests import plainlikeness, plainly
from tests.checks import Case
from tests.plainpapers import deep

PLAIN = (1, (0, 1), (0, 0), (1, 1))


def any_bridge(chance, voices):
    far = chance.choice((3, 10 ** 40))
    by = plainly.some_fraction(chance, chance.choice((3, 10 ** 30)))
    return (chance.choice((1, -1)), tuple(chance.sample(range(voices), voices)), (chance.randint(-far, far), chance.randint(-far, far)), by)


def as_lists(thing):
    return [as_lists(part) for part in thing] if isinstance(thing, (list, tuple)) else thing


class Bridges(Case):
    def test_brought(self):
        chance = random.Random(301)
        for _ in range(300):
            voices = chance.randint(1, 4)
            bridge, columns = any_bridge(chance, voices), plainly.some_bar(chance, voices, 6)
            wanted = tuple(plainlikeness.bring(column, bridge) for column in columns)
            self.assert_answer(wanted, brought, columns, bridge)
            self.assert_answer(wanted, brought, as_lists(columns), as_lists(bridge))
            self.assert_answer(bridge, check_bridge, bridge, voices)
            self.assert_answer(bridge, check_bridge, as_lists(bridge), voices)

    def test_one_behind_another(self):
        chance = random.Random(302)
        for _ in range(300):
            voices = chance.randint(1, 4)
            one, other, third = [any_bridge(chance, voices) for _ in range(3)]
            columns = plainly.some_bar(chance, voices, 6)
            both = put_behind(one, other)
            self.assert_same(brought(brought(columns, one), other), brought(columns, both))
            self.assert_answer(both, check_bridge, both, voices)
            self.assert_answer(plainlikeness.put_behind(one, other), put_behind, one, other)
            self.assert_answer(both, put_behind, as_lists(one), as_lists(other))
            self.assert_same(put_behind(both, third), put_behind(one, put_behind(other, third)))

    def test_opposites(self):
        chance = random.Random(303)
        for _ in range(300):
            voices = chance.randint(1, 4)
            bridge = any_bridge(chance, voices)
            plain = (1, tuple(range(voices)), (0, 0), (1, 1))
            back = opposite_bridge(bridge)
            self.assert_same(plain, put_behind(bridge, back))
            self.assert_same(plain, put_behind(back, bridge))
            self.assert_answer(bridge, opposite_bridge, back)
            self.assert_answer(back, opposite_bridge, as_lists(bridge))
            columns = plainly.some_bar(chance, voices, 6)
            self.assert_same(columns, brought(brought(columns, bridge), back))
        self.assert_answer(PLAIN, opposite_bridge, PLAIN)

    def test_what_is_none(self):
        for thing in (None, True, 0, "", "abcd", (), [], {}, {0: 1, 1: (0, 1), 2: (0, 0), 3: (1, 1)}, PLAIN[:3], PLAIN + (1,), deep(44)):
            self.refuse(thing)
        wrong = (
            (0, 2, -2, True, False, None, "1", (1,), [1], {}),
            (None, 0, "01", {}, {0: 0, 1: 1}, (), (0,), (0, 0), (1, 2), (0, 1, 2), (True, False), (0, True), (False, 1), (0, -1), (0, None), ((0,), (1,)), ([], 0), deep(43)),
            (None, 0, "00", {}, {0: 0, 1: 0}, (), (0,), (0, 0, 0), (True, 0), (0, False), (None, 0), ("0", 0), ((0,), 0), deep(43)),
            (None, 1, "11", {}, {1: 1}, (), (1,), (1, 1, 1), (True, 1), (1, True), (0, 1), (-1, 1), (1, 0), (1, -1), (2, 2), (None, 1), ((1,), 1), deep(43)),
        )
        for at, things in enumerate(wrong):
            for thing in things:
                self.refuse(PLAIN[:at] + (thing,) + PLAIN[at + 1:])
                self.refuse(list(PLAIN[:at]) + [thing] + list(PLAIN[at + 1:]))
        for voices in (1, 3, 4):
            self.assert_raises(BadBridge, {}, check_bridge, PLAIN, voices)
        self.assert_error_class(BadBridge)

    def refuse(self, thing):
        self.assert_raises(BadBridge, {}, check_bridge, thing, 2)


if __name__ == "__main__":
    unittest.main()

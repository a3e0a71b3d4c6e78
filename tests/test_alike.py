"""Promises [N1] to [N4] and [C3]: counterheld.alike."""

import random
import unittest

from counterheld.alike import alike, alike_back, alike_for, bridges_between, difference_at, first_difference, follows
from counterheld.bridges import BadBridge
from counterheld.lines import NoVoice
from counterheld.moments import NoColumn, columns
from counterheld.scores import Score
from tests import plainlikeness, plainly
from tests.checks import Case, within
from tests.plainlikeness import brought_rules, some_bridge, some_columns, some_rules, uneven_rules
from tests.plainpapers import deep
from tests.plainsums import Sums
from tests.test_same_columns import others

NO_VOICES = (-1, 4, 10 ** 30, True, False, None, "0", "", (), [0], {}, (0,))
FAR = 10 ** 12


def some_pair(chance, voices):
    """Two scores of few columns, the second one often made from the first one, and what both are written out."""
    rules = some_rules(chance, chance.randint(1, 10), 40, voices)
    row = plainly.written(rules)[-1]
    way = chance.randrange(5)
    if way == 0:
        more = some_rules(chance, chance.randint(1, 10), 40, voices)
        return rules, row, more, plainly.written(more)[-1]
    bridge = some_bridge(chance, voices)
    told = [plainlikeness.bring(column, bridge) for column in row]
    if way == 2:
        for _ in range(chance.randint(1, 4)):
            told[chance.randrange(len(told))] = some_columns(chance, 1, voices)[0]
    if way == 3:
        told = told[:chance.randint(1, len(told))] + list(some_columns(chance, 2, voices))
    if way == 4:
        told = told[:chance.randint(1, len(told))]
    middle = chance.randint(1, len(told))
    more = [("bar", tuple(told[:middle]))]
    if middle < len(told):
        more += [("bar", tuple(told[middle:])), ("then", 0, 1)]
    return rules, row, tuple(more), told


class FewColumns(Case):
    """Against the columns written out."""

    def check(self, chance, one, row, other, told):
        for _ in range(6):
            bridge = some_bridge(chance, one.voices)
            first, second = chance.randrange(len(row)), chance.randrange(len(told))
            if chance.random() < 0.5:
                second = min(first, len(told) - 1)
            wanted = plainlikeness.alike_for(row, first, told, second, bridge)
            self.assert_answer(wanted, alike_for, one, first, other, second, bridge)
            wanted = plainlikeness.alike_back(row, first + 1, told, second + 1, bridge)
            self.assert_answer(wanted, alike_back, one, first + 1, other, second + 1, bridge)
            again = chance.randrange(len(row))
            self.assert_answer(plainlikeness.alike_for(row, first, row, again, bridge), alike_for, one, first, one, again, list(bridge))
            wanted = plainlikeness.alike_back(row, len(row), row, again + 1, bridge)
            self.assert_answer(wanted, alike_back, one, len(row), one, again + 1, bridge)
        self.assert_answer(row == told, alike, one, other)
        differences = plainlikeness.differences(row, told)
        self.assert_answer(differences[0] if differences else None, first_difference, one, other)
        for index in within({0, 1, 2, len(differences) // 2, len(differences) - 1}, len(differences)):
            self.assert_answer(differences[index], difference_at, one, other, index)
        for index in (len(differences), len(differences) + 1, 1000):
            self.assert_answer(None, difference_at, one, other, index)
        wanted = plainlikeness.bridges_between(row, told)
        self.assert_answer(wanted, bridges_between, one, other)
        return len(wanted)

    def test_of_chance(self):
        chance = random.Random(311)
        met = 0
        for _ in range(250):
            rules, row, more, told = some_pair(chance, chance.choice((1, 1, 2, 2, 3, 4)))
            met += self.check(chance, Score(rules), row, Score(more), told)
        self.assertGreater(met, 60)

    def test_other_rules(self):
        chance = random.Random(312)
        for _ in range(60):
            rules = some_rules(chance, chance.randint(1, 10), 60, chance.randint(1, 4))
            score, row = Score(rules), plainly.written(rules)[-1]
            for other in others(chance, rules):
                self.assert_answer(True, alike, score, other)
                self.assert_answer(True, alike, other, score)
                self.assert_answer(None, first_difference, score, other)
                plain = (1, tuple(range(score.voices)), (0, 0), (1, 1))
                self.assert_answer(len(row), alike_for, score, 0, other, 0, plain)

    def test_bridges_of_all_views(self):
        """Voices with the same entries, silent voices, and scores in which no voice sounds."""
        chance = random.Random(313)
        for voices in (1, 2, 3, 4):
            for silent in (0, 0.5, 0.9, 1):
                for _ in range(4):
                    entry_rows = [some_columns(chance, 1, 1, 1, silent)[0] for _ in range(3)]
                    shown = [chance.randrange(2) for _ in range(voices)]
                    bar = tuple((duration, 0, tuple(entries[0] if show else None for show in shown)) for duration, _, entries in entry_rows)
                    bridge = some_bridge(chance, voices)
                    rules = (("bar", bar), ("times", 0, 3), ("raise", 0, (1, 1)), ("then", 1, 2))
                    row = plainly.written(rules)[-1]
                    told = [plainlikeness.bring(column, bridge) for column in row]
                    self.check(chance, Score(rules), row, Score((("bar", tuple(told)),)), told)
        mute = Score((("bar", (((1, 4), 0, (None, None)),)), ("times", 0, FAR)))
        wanted = tuple((sign, order, (0, 0), (3, 1)) for sign in (1, -1) for order in ((0, 1), (1, 0)))
        self.assert_answer(wanted, bridges_between, mute, Score(mute.rules + (("pace", 1, (3, 1)),)))

    def test_unlike_numbers_of_voices(self):
        one = Score((("bar", (((1, 4), 0, (None,)),) * 3),))
        other = Score((("bar", (((1, 4), 0, (None, None)),) * 5),))
        self.assert_answer(False, alike, one, other)
        self.assert_answer((), bridges_between, one, other)
        for index, told in enumerate(((0, "voices", None), (1, "voices", None), (2, "voices", None), (3, "end", None), (4, "end", None), None)):
            self.assert_answer(told, difference_at, one, other, index)
            self.assert_answer(told, difference_at, other, one, index)
        self.assert_answer(0, alike_for, one, 0, other, 0, (1, (0,), (0, 0), (1, 1)))
        self.assert_answer(0, alike_back, other, 5, one, 3, (1, (0, 1), (0, 0), (1, 1)))

    def test_words(self):
        column = ((1, 4), 1, (((0, 4), True), None))
        for other, word, voice in (
            (((1, 8), 2, (None, None)), "duration", None), (((1, 4), 2, (None, None)), "accent", None),
            (((1, 4), 1, (None, None)), "entry", 0), (((1, 4), 1, (((0, 4), False), None)), "entry", 0),
            (((1, 4), 1, (((0, 4), True), ((0, 4), True))), "entry", 1), (((1, 4), 1, (((1, 4), True), ((0, 4), True))), "entry", 0),
        ):
            one, two = Score((("bar", (column, column)), ("times", 0, 5))), Score((("bar", (column, other)), ("times", 0, 5)))
            for index in range(5):
                self.assert_answer((2 * index + 1, word, voice), difference_at, one, two, index)
            self.assert_answer(None, difference_at, one, two, 5)


class ManyColumns(Case):
    """Scores of up to 10 ** 12 columns, against columns that are looked at one by one around the places that are told."""

    def some_scores(self, chance, many):
        for _ in range(many):
            bar = some_columns(chance, chance.randint(1, 12), chance.randint(1, 3))
            yield Score(uneven_rules(chance, bar, chance.choice((20, 45))))

    def check_for(self, one, first, other, second, bridge):
        told = alike_for(one, first, other, second, bridge)
        near = min(told, 20)
        for ahead in (0, told - near, told // 2 - near // 2):
            if near > 0:
                brought = [plainlikeness.bring(column, bridge) for column in columns(one, first + ahead, first + ahead + near)]
                self.assertEqual(tuple(brought), columns(other, second + ahead, second + ahead + near))
        if first + told < one.count and second + told < other.count:
            column = columns(one, first + told, first + told + 1)[0]
            self.assertNotEqual((plainlikeness.bring(column, bridge),), columns(other, second + told, second + told + 1))

    def check_back(self, one, stop, other, end, bridge):
        told = alike_back(one, stop, other, end, bridge)
        if told > 0:
            near = min(told, 20)
            brought = [plainlikeness.bring(column, bridge) for column in columns(one, stop - told, stop - told + near)]
            self.assertEqual(tuple(brought), columns(other, end - told, end - told + near))
            self.assertGreaterEqual(alike_for(one, stop - told, other, end - told, bridge), told)
        if told < min(stop, end):
            column = columns(one, stop - told - 1, stop - told)[0]
            self.assertNotEqual((plainlikeness.bring(column, bridge),), columns(other, end - told - 1, end - told))

    def test_parts_of_one_score(self):
        chance = random.Random(314)
        for score in self.some_scores(chance, 15):
            plain = (1, tuple(range(score.voices)), (0, 0), (1, 1))
            counts = score.counts()
            for _ in range(20):
                bridge = chance.choice((plain, some_bridge(chance, score.voices)))
                first, second = chance.randrange(score.count), chance.randrange(score.count)
                if chance.random() < 0.5:
                    second = (first + chance.choice(counts)) % score.count
                self.check_for(score, first, score, second, bridge)
                self.check_back(score, first + 1, score, second + 1, bridge)

    def test_against_sums(self):
        """Whole parts, however long they are alike, in scores whose rules lie within one another in all ways."""
        chance = random.Random(321)
        longest = 0
        for number in range(24):
            bar = some_columns(chance, chance.randint(1, 4), chance.randint(1, 3), silent=chance.choice((0, 0.2, 0.8)))
            rules = [("bar", bar), ("bar", bar[:1])]
            if number % 3 == 0:
                while len(rules) < 50:
                    rules.append(("then", len(rules) - 1, len(rules) - 2))
            elif number % 3 == 1:
                for k in range(25):
                    change = (("raise", (1, 0)), ("pace", (2, 3)), ("turn", (1, 8)), ("raise", (-1, 1)))[k % 4]
                    rules += [(change[0], len(rules) - 1, change[1]), ("then", len(rules) - 1, len(rules))]
            else:
                rules = uneven_rules(chance, bar, 50)
            one = Score(rules)
            other = chance.choice(others(chance, one.rules) or [one])
            sums, sums_other = Sums(one), Sums(other)
            for _ in range(15):
                plain = (1, tuple(range(one.voices)), (0, 0), (1, 1))
                bridge = chance.choice((plain, plain, some_bridge(chance, one.voices)))
                first = chance.randrange(one.count)
                second = chance.choice((first, chance.randrange(one.count), (first + chance.choice(one.counts())) % one.count))
                told = alike_for(one, first, other, second, bridge)
                if told > 0:
                    self.assertEqual(sums.brought(sums.part(first, first + told), bridge), sums_other.part(second, second + told))
                self.check_for(one, first, other, second, bridge)
                longest = max(longest, told)
                told = alike_back(one, first + 1, other, second + 1, bridge)
                if told > 0:
                    brought = sums.brought(sums.part(first + 1 - told, first + 1), bridge)
                    self.assertEqual(brought, sums_other.part(second + 1 - told, second + 1))
                self.check_back(one, first + 1, other, second + 1, bridge)
        self.assertGreater(longest, 10 ** 9)

    def test_other_rules_and_changed_columns(self):
        chance = random.Random(315)
        for score in self.some_scores(chance, 12):
            bridge = some_bridge(chance, score.voices)
            try:
                other = Score(brought_rules(score.rules, bridge))
            except ValueError:
                continue
            told = bridges_between(score, other)
            self.assertIn(bridge[3], {told_bridge[3] for told_bridge in told})
            for one in told:
                self.assert_answer(score.count, alike_for, score, 0, other, 0, one)
                self.assert_answer(score.count, alike_back, score, score.count, other, score.count, one)
            for again in others(chance, score.rules)[:3]:
                self.assert_answer(True, alike, score, again)
                self.assert_answer(told, bridges_between, again, other)
                self.check_changed(chance, score, again)

    def check_changed(self, chance, score, again):
        """Scores that are changed in some columns, deep within."""
        if score.count < 10 or len(again.rules) > 40:
            return
        places = sorted({chance.randrange(1, score.count - 1) for _ in range(3)})
        rules, last, wanted = list(again.rules), len(again.rules) - 1, []
        begin, whole = 0, None
        for place in places + [score.count]:
            if begin < place:
                rules.append(("cut", last, begin, place))
                if whole is not None:
                    rules.append(("then", whole, len(rules) - 1))
                whole = len(rules) - 1
            if place < score.count:
                (n, d), accent, entries = columns(score, place, place + 1)[0]
                rules += [("bar", (((1, 997), accent, (None,) * len(entries)),)), ("then", whole, len(rules))]
                whole = len(rules) - 1
                if (n, d) != (1, 997):
                    wanted.append((place, "duration", None))
            begin = place + 1
        changed = Score(rules)
        self.assert_answer(False, alike, score, changed)
        for index, told in enumerate(wanted + [None]):
            self.assert_answer(told, difference_at, score, changed, index)
        self.assert_answer((), bridges_between, score, changed)
        longer = Score(list(again.rules) + [("cut", last, 0, places[0]), ("then", last, last + 1)])
        self.assert_answer((score.count, "end", None), first_difference, score, longer)
        self.assert_answer((score.count + 1, "end", None) if places[0] > 1 else None, difference_at, longer, score, 1)

    def test_each_column_differs(self):
        score = Score((("bar", some_columns(random.Random(316), 30, 2)), ("times", 0, 10 ** 10)))
        for more, word in ((("raise", 1, (0, 1)), "entry"), (("pace", 1, (3, 2)), "duration")):
            other = Score(score.rules + (more,))
            sounding = [k for k, column in enumerate(score.rules[0][1]) if word == "duration" or column[2] != (None, None)]
            for index in (0, 1, 500, 1000):
                place = index // len(sounding) * 30 + sounding[index % len(sounding)]
                self.assertEqual((place, word), difference_at(score, other, index)[:2])

    def test_copies(self):
        """The same columns as copies of unlike lengths."""
        chance = random.Random(317)
        for _ in range(20):
            bar = some_columns(chance, chance.randint(1, 5), 2)
            one = Score((("bar", bar), ("times", 0, 60 * 10 ** 9)))
            told = [
                (("times", 0, 60), ("times", 1, 10 ** 9)), (("times", 0, 10 ** 9), ("times", 1, 60)), (("then", 0, 0), ("then", 1, 0), ("times", 2, 2 * 10 ** 10)),
                (("times", 0, 7), ("times", 1, 10 ** 10), ("cut", 2, 3 * len(bar), (60 * 10 ** 9 + 3) * len(bar))),
            ]
            for more in told:
                other = Score((("bar", bar),) + more)
                self.assert_answer(True, alike, one, other)
                longer = Score(other.rules + (("then", len(more), 0),))
                self.assert_answer((one.count, "end", None), first_difference, one, longer)
                plain = (1, (0, 1), (0, 0), (1, 1))
                self.assert_answer(one.count - 3 * len(bar), alike_for, one, 3 * len(bar), longer, 0, plain)


class Follows(Case):
    def test_of_chance(self):
        chance = random.Random(318)
        met = 0
        for _ in range(120):
            rules = some_rules(chance, chance.randint(1, 8), 24, chance.choice((1, 2, 3)))
            score, row = Score(rules), plainly.written(rules)[-1]
            for _ in range(12):
                leader, follower = chance.randrange(score.voices), chance.randrange(score.voices)
                if len(row) > 1:
                    distance = chance.randrange(1, len(row))
                    wanted = plainlikeness.follows(row, leader, follower, distance)
                    self.assert_answer(wanted, follows, score, leader, follower, distance)
                    met += len(wanted) > 0 and distance * 2 < len(row)
        self.assertGreater(met, 30)

    def canon(self, chance, many, distance, sign, interval):
        """Columns in which voice 1 follows voice 0."""
        tones = [(chance.randrange(3), chance.randrange(3)) for _ in range(many)]
        begins = [chance.random() < 0.7 for _ in range(many)]
        sounds = [chance.random() < 0.8 for _ in range(many)]
        told = []
        for k in range(many):
            one = (tones[k], begins[k]) if sounds[k] else None
            two = chance.choice((None, ((5, 5), True)))
            if k >= distance:
                tone = tones[k - distance]
                two = ((sign * tone[0] + interval[0], sign * tone[1] + interval[1]), begins[k - distance]) if sounds[k - distance] else None
            told.append(((1, 4), chance.randrange(3), (one, two)))
        return told

    def test_canons(self):
        chance = random.Random(319)
        for _ in range(60):
            distance, sign = chance.randint(1, 20), chance.choice((1, -1))
            interval = (chance.randint(-5, 5), chance.randint(-5, 5))
            row = self.canon(chance, 60, distance, sign, interval)
            score = Score((("bar", tuple(row[:30])), ("bar", tuple(row[30:])), ("then", 0, 1)))
            self.assertIn((sign, interval), follows(score, 0, 1, distance))
            self.assert_answer(plainlikeness.follows(row, 0, 1, distance), follows, score, 0, 1, distance)
            at = chance.randrange(distance, 60)
            duration, accent, entries = row[at]
            change = chance.choice(("duration", "entry"))
            if change == "duration":
                row[at] = ((1, 8), accent, entries)
            else:
                row[at] = (duration, accent, (entries[0], ((9, 9), True)))
            changed = Score((("bar", tuple(row)),))
            self.assert_answer(plainlikeness.follows(row, 0, 1, distance), follows, changed, 0, 1, distance)

    def test_many_columns(self):
        chance = random.Random(320)
        row = self.canon(chance, 64, 5, -1, (2, 1))
        # From copy to copy the voices go on as in a ring.
        ring = [((1, 4), 0, (row[k][2][0], None)) for k in range(64)]
        for k in range(64):
            entry = ring[(k - 5) % 64][2][0]
            told = None if entry is None else ((2 - entry[0][0], 1 - entry[0][1]), entry[1])
            ring[k] = (ring[k][0], 0, (ring[k][2][0], told))
        score = Score((("bar", tuple(ring)), ("times", 0, 10 ** 10)))
        self.assert_answer(((-1, (2, 1)),), follows, score, 0, 1, 5)
        self.assert_answer(((-1, (2, 1)),), follows, score, 0, 1, 64 * 10 ** 9 + 5)
        self.assert_answer((), follows, score, 0, 1, 6)
        self.assert_answer(((1, (0, 0)),), follows, score, 0, 0, 64)
        self.assert_answer(((1, (0, 0)),), follows, score, 1, 1, 64 * 10 ** 9)
        silent = Score((("bar", (((1, 4), 0, (None, ((0, 4), True))),)), ("times", 0, FAR)))
        self.assert_answer(((1, (0, 0)), (-1, (0, 0))), follows, silent, 0, 0, FAR - 1)
        self.assert_answer((), follows, silent, 0, 1, 7)
        self.assert_answer(((1, (0, 0)), (-1, (0, 8))), follows, silent, 1, 1, 7)

    def test_durations_that_do_not_come_round(self):
        entries = (((0, 4), True), ((0, 4), True))
        score = Score((("bar", (((1, 4), 0, entries), ((1, 8), 1, entries))), ("times", 0, 10)))
        self.assert_answer((), follows, score, 0, 1, 1)
        self.assert_answer(((1, (0, 0)), (-1, (0, 8))), follows, score, 0, 1, 2)


class Wrong(Case):
    ONE = Score((("bar", some_columns(random.Random(1), 5, 2)),))

    def test_bridges(self):
        for bridge in (None, True, 0, "", (), {}, deep(44), (1, (0,), (0, 0), (1, 1)), (0, (0, 1), (0, 0), (1, 1)), (1, (0, 1), (0, 0), (2, 2))):
            self.assert_raises(BadBridge, {}, alike_for, self.ONE, -1, self.ONE, -1, bridge)
            self.assert_raises(BadBridge, {}, alike_back, self.ONE, 0, self.ONE, 0, bridge)

    def test_columns(self):
        plain = (1, (0, 1), (0, 0), (1, 1))
        for number in (-1, 5, 10 ** 30):
            self.assert_raises(NoColumn, {"number": number}, alike_for, self.ONE, number, self.ONE, -7, plain)
            self.assert_raises(NoColumn, {"number": number}, alike_for, self.ONE, 0, self.ONE, number, plain)
        for number in (-1, 0, 6, 10 ** 30):
            self.assert_raises(NoColumn, {"number": number}, alike_back, self.ONE, number, self.ONE, -7, plain)
            self.assert_raises(NoColumn, {"number": number}, alike_back, self.ONE, 5, self.ONE, number, plain)
        other = Score((("bar", some_columns(random.Random(1), 5, 1)),))
        self.assert_raises(NoColumn, {"number": 5}, alike_for, self.ONE, 0, other, 5, plain)
        self.assert_raises(BadBridge, {}, alike_for, other, 0, self.ONE, 5, plain)

    def test_voices(self):
        for voice in NO_VOICES + (2,):
            self.assert_raises(NoVoice, {}, follows, self.ONE, voice, 0, -1)
            self.assert_raises(NoVoice, {}, follows, self.ONE, 0, voice, -1)
        for distance in (0, -1, 5, 6, 10 ** 30):
            self.assert_raises(NoColumn, {"number": distance}, follows, self.ONE, 0, 1, distance)
        single = Score((("bar", some_columns(random.Random(1), 1, 1)),))
        self.assert_raises(NoColumn, {"number": 1}, follows, single, 0, 0, 1)


if __name__ == "__main__":
    unittest.main()

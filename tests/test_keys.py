"""Promise [A7]: counterheld.keys."""

import unittest

from counterheld.keys import BadKey, degree, key_name, scale, tone_of
from counterheld.names import tone_name
from tests.checks import Case

KEYS = [(f, minor) for f in range(-7, 8) for minor in (False, True)]
MAJOR = ("Cb", "Gb", "Db", "Ab", "Eb", "Bb", "F", "C", "G", "D", "A", "E", "B", "F#", "C#")
MINOR = ("Ab", "Eb", "Bb", "F", "C", "G", "D", "A", "E", "B", "F#", "C#", "G#", "D#", "A#")
NO_KEYS = (
    (8, False), (-8, False), (8, True), (-8, True), (0, 1), (0, 0), (0, None), (0, "minor"), (True, False), (None, True),
    ("0", False), (1000, True), [8, False], (False, True), (0, True, True), (0,), (), None, "C major", "01", {0: True}, 3,
)


class Names(Case):
    def test_all(self):
        for f in range(-7, 8):
            self.assert_answer(MAJOR[f + 7] + " major", key_name, (f, False))
            self.assert_answer(MINOR[f + 7] + " minor", key_name, [f, True])


class Scales(Case):
    def test_all(self):
        for f, minor in KEYS:
            own = (MINOR if minor else MAJOR)[f + 7]
            for octave in (-900, -1, 0, 4, 900):
                told = scale((f, minor), octave)
                self.assertEqual(own + str(octave), tone_name(told[0]))
                self.assertEqual(list(range(f - 1, f + 6)), sorted(tone[0] for tone in told))
                first = 4 * told[0][0] + 7 * told[0][1]
                self.assertEqual([first + k for k in range(7)], [4 * g + 7 * o for g, o in told])

    def test_some(self):
        self.assert_answer(((0, 4), (2, 3), (4, 2), (-1, 5), (1, 4), (3, 3), (5, 2)), scale, (0, False), 4)
        self.assertEqual("B-1 C#0 D0 E0 F#0 G0 A0".split(), [tone_name(tone) for tone in scale([2, True], -1)])
        self.assertEqual("Cb0 Db0 Eb0 Fb0 Gb0 Ab0 Bb0".split(), [tone_name(tone) for tone in scale((-7, False), 0)])


class Degrees(Case):
    def test_tones_of_the_scale(self):
        for key in KEYS:
            for octave in (-3, 0, 5):
                self.assertEqual([(k, 0) for k in range(1, 8)], [degree(key, tone) for tone in scale(key, octave)])

    def test_many_signs(self):
        for key in KEYS:
            for signs in (-100, -99, -2, -1, 0, 1, 7, 100):
                for number in range(1, 8):
                    for octave in (-900, -1, 0, 4, 900):
                        tone = tone_of(key, number, signs, octave)
                        self.assertEqual((number, signs), degree(key, tone))
                        self.assertEqual(str(octave), tone_name(tone)[1:].lstrip("#b"))
                        plain = scale(key, 0)[number - 1]
                        self.assertEqual(tone[0], plain[0] + 7 * signs)

    def test_some(self):
        self.assert_answer((1, 0), degree, (0, False), (0, 4))
        self.assert_answer((1, 1), degree, [0, False], [7, 0])
        self.assert_answer((3, 0), degree, (0, True), (0, 4))
        self.assert_answer((7, 1), degree, (0, True), (8, 0))
        self.assert_answer((4, -1), degree, (1, False), (-7, 9))
        self.assert_answer((6, 1), tone_of, (0, False), 4, 1, 4)
        self.assert_answer((-7, 8), tone_of, (0, False), 1, -1, 4)
        self.assert_answer((12, -2), tone_of, [0, False], 7, 1, 4)
        self.assert_answer((2, 143), degree, (0, False), (1003, 0))


class NoKeys(Case):
    def test_all_functions(self):
        for key in NO_KEYS:
            self.assert_raises(BadKey, {}, key_name, key)
            self.assert_raises(BadKey, {}, scale, key, 4)
            self.assert_raises(BadKey, {}, degree, key, (0, 4))
            self.assert_raises(BadKey, {}, tone_of, key, 1, 0, 4)

    def test_the_error(self):
        self.assert_error_class(BadKey)


if __name__ == "__main__":
    unittest.main()

"""Promises [A3], [A4], [A5]: counterheld.names."""

import subprocess
import sys
import unittest

from counterheld.names import BadName, interval_name, read_interval, read_tone, tone_name
from tests import plainly
from tests.checks import Case

NUMBERS = range(-1000, 1001)
EDGES = (-1000, -999, -998, 998, 999, 1000)
SOME = sorted(set(EDGES) | set(range(-1000, 1001, 125)) | set(range(-9, 10)))
BAD_ANYWAY = (
    "", " ", "-", "--", "4", "-4", "#", "b", "##", "C", "c", "H4", "h4", "c4", "g4", "C 4", " C4", "C4 ", "C4\n", "\tC4",
    "C04", "C-04", "C-0", "C00", "C+4", "C--4", "C-", "C4#", "#C4", "C#b4", "Cb#4", "C#b#4", "C1_0", "C4.0", "C1e1", "CC4",
    "C\u0664", "C\u00b2", "\u266f4", "C\u266f4", "P", "M", "P0", "M0", "d1", "dd1", "ddd1", "-P1", "-d1", "-dd1", "P-1",
    "P-8", "--P8", "-M-2", "P01", "P08", "M03", "-m03", "p1", "a4", "P2", "P3", "P6", "P7", "P9", "P10", "M1", "m1",
    "M4", "m4", "M5", "m5", "M8", "m8", "M11", "PP1", "PP8", "MM3", "mm3", "Mm3", "mM3", "Am3", "dm3", "md3", "Ad4", "dA4",
    "dA5", "PA4", "AP4", "P 8", " P8", "P8 ", "P8\n", "P+8", "P8.0", "A", "d0", "-A0", "m-3", "P\u0668",
)


class Written(Case):
    def test_examples(self):
        for tone, name in (((0, 4), "C4"), ((1, 4), "G4"), ((-1, 5), "F4"), ((6, 1), "F#4"), ((-2, 6), "Bb4")):
            self.assert_answer(name, tone_name, tone)
            self.assert_answer(name, tone_name, list(tone))
            self.assert_answer(tone, read_tone, name)
        intervals = {
            "P1": (0, 0), "m3": (-3, 2), "A4": (6, -3), "P8": (0, 1), "M10": (4, -1), "dd12": (-13, 9),
            "-A1": (-7, 4), "-AA1": (-14, 8), "A1": (7, -4), "-P8": (0, -1), "-m2": (5, -3),
        }
        for name, interval in intervals.items():
            self.assert_answer(name, interval_name, interval)
            self.assert_answer(name, interval_name, list(interval))
            self.assert_answer(interval, read_interval, name)

    def test_octaves_below_0_and_many_signs(self):
        self.assert_answer("C-1", tone_name, (0, -1))
        self.assert_answer("B-1", tone_name, (5, -3))
        self.assert_answer("Cb0", tone_name, (-7, 4))
        self.assert_answer("B#-1", tone_name, (12, -7))
        self.assert_answer("D-12", tone_name, (2, -13))
        self.assert_answer("E" + "#" * 142 + "0", tone_name, (998, -570))
        self.assert_answer("D" + "b" * 143 + "0", tone_name, (-999, 571))
        self.assert_answer("D" + "#" * 143 + "1572", tone_name, (1003, 999))

    def check(self, f, o):
        name = plainly.tone_name(f, o)
        self.assertEqual(name, tone_name((f, o)))
        self.assertEqual((f, o), read_tone(name))
        name = plainly.interval_name(f, o)
        self.assertEqual(name, interval_name((f, o)))
        self.assertEqual((f, o), read_interval(name))

    def test_all_fifths(self):
        for f in NUMBERS:
            for o in SOME:
                self.check(f, o)

    def test_all_octaves(self):
        for o in NUMBERS:
            for f in SOME:
                self.check(f, o)

    def test_all_fifths_with_all_octaves(self):
        # With one f, octaves change the numbers in names alone.
        for f in NUMBERS:
            first = plainly.tone_name(f, 0)
            letter = first.rstrip("-0123456789")
            octave = int(first[len(letter):])
            self.assertEqual([letter + str(octave + o) for o in NUMBERS], [tone_name((f, o)) for o in NUMBERS])
            up, down = (plainly.interval_name(f, o).strip("-0123456789") for o in (1000, -1000))
            names = []
            for o in NUMBERS:
                many = 4 * f + 7 * o
                upward = many > 0 or (many == 0 and f >= 0)
                names.append(f"{up}{many + 1}" if upward else f"-{down}{1 - many}")
            self.assertEqual(names, [interval_name((f, o)) for o in NUMBERS])

    def test_the_names_of_all_are_different(self):
        tones = {tone_name((f, o)) for f in range(-60, 61) for o in range(-60, 61)}
        intervals = {interval_name((f, o)) for f in range(-60, 61) for o in range(-60, 61)}
        self.assertEqual((121 * 121, 121 * 121), (len(tones), len(intervals)))

    def test_intervals_of_0_steps(self):
        for k in range(1, 140):
            self.assert_answer("A" * k + "1", interval_name, (7 * k, -4 * k))
            self.assert_answer("-" + "A" * k + "1", interval_name, (-7 * k, 4 * k))


class Read(Case):
    def test_both_kinds(self):
        self.assert_answer((3, 3), read_tone, "A4")
        self.assert_answer((6, -3), read_interval, "A4")

    def test_reading_needs_no_writing(self):
        lines = (
            "from counterheld.names import read_interval, read_tone",
            "print(read_interval('-AA1'), read_tone('Bb-3'), read_interval('-m10'), read_tone('F#4'))",
        )
        told = subprocess.run([sys.executable, "-c", "\n".join(lines)], capture_output=True, text=True, check=True)
        self.assertEqual("(-14, 8) (-2, -1) (3, -3) (6, 1)\n", told.stdout)

    def test_no_names(self):
        for text in BAD_ANYWAY:
            self.assert_raises(BadName, {"text": text}, read_tone, text)
            self.assert_raises(BadName, {"text": text}, read_interval, text)

    def test_of_the_other_kind(self):
        for text in ("P1", "m3", "P8", "M10", "dd12", "-A1", "-AA1", "-P8", "AA4", "d5"):
            self.assert_raises(BadName, {"text": text}, read_tone, text)
        for text in ("C4", "F#4", "Bb4", "C-1", "A-4", "A#4", "Ab4", "Ab-1"):
            self.assert_raises(BadName, {"text": text}, read_interval, text)

    def test_just_beyond(self):
        for near in (-1000, 1000):
            far = near + (1 if near > 0 else -1)
            for other in (-1000, -7, 0, 3, 1000):
                for pair in ((far, other), (other, far), (far, far)):
                    name = plainly.tone_name(*pair)
                    self.assertEqual(name, tone_name(pair))
                    self.assert_raises(BadName, {"text": name}, read_tone, name)
                    name = plainly.interval_name(*pair)
                    self.assertEqual(name, interval_name(pair))
                    self.assert_raises(BadName, {"text": name}, read_interval, name)
                self.assertEqual((near, other), read_tone(tone_name((near, other))))
                self.assertEqual((other, near), read_interval(interval_name((other, near))))

    def test_long_texts(self):
        for text in (
            "C" * 200, "#" * 200, "4" * 200, "C" + "#" * 198 + "4", "C" + "b" * 198 + "4", "C" + "9" * 199, "C-" + "9" * 198,
            "A" * 199 + "4", "d" * 199 + "5", "P" + "8" * 199, "-" + "A" * 198 + "1", "-" * 200, "P" * 199 + "8", " " * 200,
            "C" + "0" * 199, "#b" * 100, "A" * 200, "C" + "9" * 9999, "P" + "9" * 9999,
        ):
            self.assert_raises(BadName, {"text": text}, read_tone, text)
            self.assert_raises(BadName, {"text": text}, read_interval, text)

    def test_texts_of_a_few_signs(self):
        tones = {plainly.tone_name(f, o): (f, o) for f in range(-30, 31) for o in range(-30, 31)}
        intervals = {plainly.interval_name(f, o): (f, o) for f in range(-60, 61) for o in range(-60, 61)}
        texts = [""]
        for _ in range(4):
            texts = texts + [text + sign for text in texts for sign in "CA#bPMmd-014"]
        for text in sorted(set(texts)):
            for read, named in ((read_tone, tones), (read_interval, intervals)):
                try:
                    told = read(text)
                except BadName as wrong:
                    self.assertEqual(text, wrong.text)
                    told = None
                if told is None or max(abs(told[0]), abs(told[1])) <= 30:
                    self.assertEqual(named.get(text), told, text)
                else:
                    write = plainly.tone_name if read is read_tone else plainly.interval_name
                    self.assertEqual(text, write(*told))

    def test_the_error(self):
        self.assert_error_class(BadName)


if __name__ == "__main__":
    unittest.main()

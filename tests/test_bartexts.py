"""Promise [B5]: counterheld.bartexts."""

import random
import unittest

from counterheld.bartexts import BadText, bar_text, read_bar
from counterheld.columns import BadColumn, check_bar
from tests import plainly
from tests.checks import Case

C4, C3, E4 = (0, 4), (0, 3), (4, 2)
EXAMPLE = (((1, 4), 0, ((C4, True), (C3, True))), ((1, 8), 1, ((E4, True), (C3, False))))
# Texts that are no column's, whatever stands beside them.
NO_COLUMNS = (
    "1/4", "1/4!1", "C4", "-", "~C4", "1/4C4", "1/4!1C4", "1/4 C4 C4 C4 C4 C4", "1/4 - - - - -", "2/8 C4", "2/2 C4", "3/1 C4",
    "1/1 C4", "0 C4", "0/1 C4", "0/4 C4", "-1 C4", "-1/4 C4", "1/-4 C4", "1/0 C4", "01 C4", "01/4 C4", "1/04 C4", "+1 C4",
    "1/ C4", "/4 C4", "/ C4", "1//4 C4", "1/4/4 C4", "1 /4 C4", "1/ 4 C4", "1.5 C4", "1001 C4", "1/1001 C4", "1001/2 C4",
    "99999 C4", "1000000000000000000000000000000000 C4", "9" * 5000 + " C4", "1/4! C4", "1/4!0 C4", "1/4!00 C4", "1/4!01 C4",
    "1/4!10 C4", "1/4!-1 C4", "1/4!+1 C4", "1/4!a C4", "1/4!1!1 C4", "1/4!!1 C4", "1/4 !1 C4", "1/4! 1 C4", "!1 C4", "!1/4 C4",
    "1/4 c4", "1/4 C", "1/4 4", "1/4 C04", "1/4 C-0", "1/4 ~", "1/4 ~-", "1/4 ~ C4", "1/4 ~~C4", "1/4 --", "1/4 C4~", "1/4 P8",
    "1/4 C#b4", "1/4 C4,C4", "1/4,C4", "1/4\tC4", "1/4 C4\n", "\n1/4 C4", "1/4 C4\t", "1/4\u00a0C4", "1/4 C4\r", "\u0661 C4",
    "1/4!\u0661 C4", "1/4 C\u0664", "1/4 C" + "#" * 144 + "4", "1/4 C1572", "1/4 C" + "9" * 5000, "x", "1/4 None", "1/4 C4 ~",
)


class Written(Case):
    def test_some(self):
        self.assert_answer("1/4 C4 C3 | 1/8!1 E4 ~C3", bar_text, EXAMPLE)
        self.assert_answer("1/4 C4 C3 | 1/8!1 E4 ~C3", bar_text, [[list(d), a, [[list(t), b] for t, b in e]] for d, a, e in EXAMPLE])
        self.assert_answer("3 -", bar_text, (((3, 1), 0, (None,)),))
        self.assert_answer("1000/999!9 - ~Bb-1 - F#4", bar_text, (((1000, 999), 9, (None, ((-2, 1), False), None, ((6, 1), True))),))

    def test_what_stands_in_no_bar(self):
        far = ((10 ** 40 + 1, 10 ** 39), 5, (((2000, -3000), False),))
        text = "{}/{}!5 ~{}".format(10 ** 40 + 1, 10 ** 39, plainly.tone_name(2000, -3000))
        self.assert_answer(" | ".join([text] * 1000), bar_text, (far,) * 1000)
        self.assert_raises(BadText, {"position": 0}, read_bar, text)


class Read(Case):
    def test_some(self):
        self.assert_answer(EXAMPLE, read_bar, "1/4 C4 C3 | 1/8!1 E4 ~C3")
        self.assert_answer((((3, 1), 0, (None,)),), read_bar, "3 -")
        self.assert_answer((((1, 1), 9, (None,) * 4),), read_bar, "1!9 - - - -")
        self.assert_answer((((1000, 1), 0, (((-1000, 1000), False),)),), read_bar, "1000 ~" + plainly.tone_name(-1000, 1000))
        self.assert_answer((((1, 1000), 0, (((1000, -1000), True),)),), read_bar, "1/1000 " + plainly.tone_name(1000, -1000))

    def test_spaces(self):
        for text in (
            "1/4 C4 C3|1/8!1 E4 ~C3", "  1/4 C4 C3|1/8!1 E4 ~C3   ", "1/4    C4  C3   |     1/8!1   E4 ~C3",
            "     1/4 C4     C3| 1/8!1 E4    ~C3 ", "1/4 C4 C3 |1/8!1 E4 ~C3",
        ):
            self.assert_answer(EXAMPLE, read_bar, text)

    def test_back_and_forth(self):
        chance = random.Random(5)
        for _ in range(300):
            bar = plainly.some_bar(chance, chance.randint(1, 4), 64, far=1000, parts=1000)
            self.assert_same(bar, read_bar(bar_text(bar)))
            self.assert_same(bar, check_bar(bar))

    def test_all_accents_and_voices(self):
        for accent in range(10):
            for voices in range(1, 5):
                bar = (((2, 3), accent, (None, (E4, True), (E4, False), (C4, True))[:voices]),)
                mark = f"!{accent}" if accent else ""
                text = " ".join([f"2/3{mark}", "-", "E4", "~E4", "C4"][:voices + 1])
                self.assert_answer(bar, read_bar, text)
                self.assert_answer(text, bar_text, bar)

    def test_up_to_64_columns(self):
        for many in (1, 2, 63, 64):
            self.assert_answer(EXAMPLE[:1] * many, read_bar, "|".join(["1/4 C4 C3"] * many))


class NoBars(Case):
    def test_no_columns(self):
        for text in NO_COLUMNS:
            first = len(text) - len(text.lstrip(" "))
            self.assert_raises(BadText, {"position": first}, read_bar, text)
            self.assert_raises(BadText, {"position": first + 2}, read_bar, "  " + text + "  ")
            self.assert_raises(BadText, {"position": 7 + first}, read_bar, "1/4 C4|" + text + "|x")
            self.assert_raises(BadText, {"position": 9 + first}, read_bar, "1/4 C4 | " + text + " | 1/4 C4")
            self.assert_raises(BadText, {"position": 18 + first}, read_bar, "1/4 C4 | 1/4 C4|  " + text)

    def test_columns_without_signs(self):
        for text, position in (
            ("", 0), (" ", 1), ("   ", 3), ("|", 0), ("  |", 2), ("|1/4 C4", 0), (" | 1/4 C4", 1), ("1/4 C4|", 7), ("1/4 C4 |", 8),
            ("1/4 C4 |  ", 10), ("1/4 C4||1/4 C4", 7), ("1/4 C4 |  | 1/4 C4", 10), ("1/4 C4 | 1/4 C4 |   |x", 20),
        ):
            self.assert_raises(BadText, {"position": position}, read_bar, text)

    def test_another_number_of_voices(self):
        for first in range(1, 5):
            for other in range(1, 5):
                text = "1/4" + " C4" * first + " |  1/4" + " -" * other
                if first != other:
                    self.assert_raises(BadText, {"position": text.index("|") + 3}, read_bar, text)
                else:
                    self.assertEqual(2, len(read_bar(text)))

    def test_the_first_wrong_column_counts(self):
        self.assert_raises(BadText, {"position": 8}, read_bar, "1/4 C4| 1/4 C4 C4|x")
        self.assert_raises(BadText, {"position": 0}, read_bar, "x|1/4 C4|1/4 C4 C4")
        self.assert_raises(BadText, {"position": 7}, read_bar, "1/4 C4|2/4 C4|1/4 C4 C4")

    def test_more_than_64_columns(self):
        count = {"number": None, "reason": "count"}
        for many in (65, 66, 1000):
            self.assert_raises(BadColumn, count, read_bar, "|".join(["1/4 C4"] * many))
            text = "|".join(["1/4 C4"] * many + ["1/4 - -"])
            self.assert_raises(BadText, {"position": 7 * many}, read_bar, text)
            self.assert_raises(BadText, {"position": 7 * many}, read_bar, "1/4 C4|" * many)
            self.assert_raises(BadText, {"position": 0}, read_bar, "x|" + "1/4 C4|" * many + "1/4 C4")

    def test_the_error(self):
        self.assert_error_class(BadText)


if __name__ == "__main__":
    unittest.main()

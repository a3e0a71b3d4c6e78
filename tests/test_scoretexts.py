"""Texts of scores: counterheld.scoretexts."""

import random
import unittest

from counterheld.names import interval_name
from counterheld.scores import BadScore, Score
from counterheld.scoretexts import BadScoreText, read_score, score_text
from tests import plainly
from tests.checks import Case

TEXT = """bar 1/4 C4 C3 | 1/8!1 E4 ~C3
then 0 0
times 1 12
raise 2 -m3
turn 3 -3,16
pace 4 3/2
pace 5 3
voices 6 1,0
cut 7 5 40"""
RULES = (
    ("bar", (((1, 4), 0, (((0, 4), True), ((0, 3), True))), ((1, 8), 1, (((4, 2), True), ((0, 3), False))))),
    ("then", 0, 0), ("times", 1, 12), ("raise", 2, (3, -2)), ("turn", 3, (-3, 16)), ("pace", 4, (3, 2)), ("pace", 5, (3, 1)),
    ("voices", 6, (1, 0)), ("cut", 7, 5, 40),
)
BAR = "bar 1/4 C4 C4 | 1/8 - ~E4"
GREAT = "9" * 30
# Parts that are no numbers at all, whatever rule asks for one.
NO_NUMBERS = (
    "", "-", "--1", "+1", "01", "00", "-0", "-01", "1.0", "1e1", "1_0", "a", "0x1", "1,", ",1", "1,1", "1/2", "\u0661", "\u00b2", "\t1",
    "1\t", "9" * 31, "-" + "9" * 31, "9" * 5000, "P1", "None", "True", "~", "1|",
)


class Written(Case):
    def test_every_word(self):
        self.assert_answer(TEXT, score_text, Score(RULES))
        for many in range(1, len(RULES) + 1):
            self.assert_answer("\n".join(TEXT.split("\n")[:many]), score_text, Score(list(RULES[:many])))

    def test_some_voices_and_edges(self):
        bar = ("bar", (((1000, 999), 9, (None, ((1000, -1000), False), None, ((1, 0), True))),))
        rules = (
            bar, ("voices", 0, (3, 1, 0, 2)), ("times", 1, 10 ** 12), ("cut", 2, 0, 10 ** 12), ("pace", 3, (1, 1000)),
            ("pace", 4, (1000, 1)), ("pace", 4, (1, 1)), ("raise", 0, (0, 0)), ("raise", 0, (-7, 4)), ("turn", 0, (1000, -1000)),
        )
        lines = score_text(Score(rules)).split("\n")
        self.assertEqual(
            ["voices 0 3,1,0,2", "times 1 1000000000000", "cut 2 0 1000000000000", "pace 3 1/1000", "pace 4 1000", "pace 4 1",
             "raise 0 P1", "raise 0 -A1", "turn 0 1000,-1000"], lines[1:])
        self.assertEqual("voices 0 0", score_text(Score((("bar", (((1, 1), 0, (None,)),)), ("voices", 0, (0,))))).split("\n")[1])

    def test_back_and_forth(self):
        chance = random.Random(21)
        for _ in range(100):
            rules = plainly.some_rules(chance, chance.randint(1, 25))
            self.assert_same(rules, read_score(score_text(Score(rules))).rules)
        for _ in range(10):
            rules, _ = plainly.great_rules(chance, 60)
            self.assert_same(rules, read_score(score_text(Score(rules))).rules)


class Read(Case):
    def test_every_word(self):
        score = read_score(TEXT)
        self.assertIsInstance(score, Score)
        self.assert_same(RULES, score.rules)
        self.assert_same((2, 4, 48, 48, 48, 48, 48, 48, 35), score.counts())

    def test_free_spaces_in_a_bar(self):
        for text in ("bar   1/4 C4 C3|1/8!1  E4   ~C3  ", "bar 1/4    C4 C3  |   1/8!1 E4 ~C3", "bar  1/4 C4 C3 |1/8!1 E4 ~C3"):
            self.assert_same(RULES[:1], read_score(text).rules)

    def test_up_to_10_to_the_5_signs(self):
        bar = "bar " + " | ".join(["1/4 C4 ~C4 E4 -"] * 64)
        text = "\n".join([bar] * 60 + ["bar x"] * 40)
        self.assert_raises(BadScoreText, {"line": 60, "position": 4}, read_score, text)
        self.assertEqual(60, len(read_score("\n".join([bar] * 60)).rules))
        self.assert_raises(BadScore, {"number": None, "reason": "count"}, read_score, "\n".join([bar] * 61))


class Wrong(Case):
    def assert_wrong(self, text, position):
        """The line is wrong there, as the only one and behind others, and ahead of whatever the rules are."""
        self.assert_raises(BadScoreText, {"line": 0, "position": position}, read_score, text)
        self.assert_raises(BadScoreText, {"line": 1, "position": position}, read_score, BAR + "\n" + text)
        self.assert_raises(BadScoreText, {"line": 2, "position": position}, read_score, "then 5 5\n" + BAR + "\n" + text + "\nx\n")
        self.assert_raises(BadScoreText, {"line": 61, "position": position}, read_score, (BAR + "\n") * 61 + text)

    def test_words(self):
        for text in ("", " ", "x", "Bar 1/4 C4", "bars 1/4 C4", "ba", "then0 0 0", "thens 0 0", " then 0 0", " bar 1/4 C4", "bar|1/4 C4",
                     "THEN 0 0", "\tthen 0 0", "then\t0 0", "bar\t1/4 C4", "0 0", "None", "score", "bar1/4 C4", "then\r", "back 0"):
            self.assert_wrong(text, 0)

    def test_empty_texts_and_line_feeds(self):
        self.assert_raises(BadScoreText, {"line": 0, "position": 0}, read_score, "")
        self.assert_raises(BadScoreText, {"line": 0, "position": 0}, read_score, "\n")
        self.assert_raises(BadScoreText, {"line": 0, "position": 0}, read_score, "\n" + TEXT)
        self.assert_raises(BadScoreText, {"line": 9, "position": 0}, read_score, TEXT + "\n")
        self.assert_raises(BadScoreText, {"line": 1, "position": 0}, read_score, TEXT.replace("\n", "\n\n"))
        self.assert_raises(BadScoreText, {"line": 0, "position": 16}, read_score, TEXT.replace("\n", "\r\n").replace("1/8!1 E4 ~C3", "1/8!1 E4 -"))

    def test_lacking_parts(self):
        for text in ("then", "then 0", "times", "times 0", "raise", "raise 0", "turn", "turn 0", "pace", "pace 7", "voices",
                     "voices 0", "cut", "cut 0", "cut 0 1", "bar"):
            self.assert_wrong(text, len(text))

    def test_parts_too_many(self):
        for text in ("then 0 0", "times 0 2", "raise 0 P5", "turn 0 0,8", "pace 0 1/2", "voices 0 0,1", "cut 0 0 1"):
            for more in ("", "0", " ", "x", " 0", "0 0"):
                self.assert_wrong(text + " " + more, len(text) + 1)

    def test_empty_parts(self):
        for text in ("then 0 0", "times 0 2", "raise 0 P5", "turn 0 0,8", "pace 0 1/2", "voices 0 0,1", "cut 0 0 1"):
            for place in [k for k, sign in enumerate(text) if sign == " "]:
                self.assert_wrong(text[:place] + " " + text[place:], place + 1)

    def test_numbers(self):
        for part in NO_NUMBERS:
            for ahead, behind in (("then ", " 0"), ("then 0 ", ""), ("times ", " 2"), ("times 0 ", ""), ("raise ", " P5"), ("turn ", " 0,8"),
                                  ("pace ", " 1/2"), ("voices ", " 0,1"), ("cut ", " 0 1"), ("cut 0 ", " 1"), ("cut 0 0 ", "")):
                self.assert_wrong(ahead + part + behind, len(ahead))
                self.assert_wrong(ahead + part + behind + " x", len(ahead))
            self.assert_wrong("cut " + part, 4)

    def test_intervals(self):
        for part in ("", "P", "5", "p5", "P05", "d1", "-P1", "0,0", "C4", "P5,", "M3m", "--P5", interval_name((1001, 0)), interval_name((0, -1001))):
            self.assert_wrong("raise 0 " + part, 8)
        self.assert_same(("raise", 0, (1000, -1000)), read_score("bar 1 -\nraise 0 " + interval_name((1000, -1000))).rules[1])

    def test_sums(self):
        for part in ("", "0", ",", "0,", ",8", "0,8,", ",0,8", "0,8,1", "0;8", "0/8", "-0,8", "0,-0", "00,8", "0,08", "C4", "0,+8", "1.0,8",
                     "0," + "9" * 31, "-" + "9" * 31 + ",0", "0,,8"):
            self.assert_wrong("turn 0 " + part, 7)
        self.assert_wrong("turn 0 0, 8", 7)

    def test_paces(self):
        for part in ("", "0", "-1", "0/1", "0/2", "2/2", "2/4", "1/1", "3/1", "1/0", "-1/2", "1/-2", "01/2", "1/02", "1/", "/2", "/", "1//2",
                     "1/2/3", "1.5", "1,2", "+1/2", "1/+2", "9" * 31, "1/" + "9" * 31, "P5", "1/2!1", "\u0661/2"):
            self.assert_wrong("pace 0 " + part, 7)

    def test_orders(self):
        for part in ("", ",", "0,", ",0", "0,,1", "0;1", "01", "0,-0", "0,01", "a", "0,b", "1.0", "0," + "9" * 31, "(0,1)", "0/1"):
            self.assert_wrong("voices 0 " + part, 9)
        self.assert_wrong("voices 0 0, 1", 9)

    def test_bars(self):
        for text, position in (
            ("bar", 3), ("bar ", 4), ("bar  ", 5), ("bar x", 4), ("bar  x", 5), ("bar 1/4 C4 |", 12), ("bar 1/4 C4 | ", 13),
            ("bar 1/4 C4 | 1/4 C4 C4", 13), ("bar |", 4), ("bar 1/4 C4 | x | 1/4", 13), ("bar 1/4 C4\t", 4), ("bar 2/4 C4", 4),
            ("bar 1/4 C4 |  | x", 14), ("bar - -", 4),
        ):
            self.assert_wrong(text, position)

    def test_bars_of_more_than_64_columns(self):
        self.assertEqual(64, read_score("bar " + "|".join(["1/4 C4"] * 64)).count)
        self.assert_wrong("bar " + "|".join(["1/4 C4"] * 65), 4)
        self.assert_wrong("bar    " + "|".join(["1/4 C4"] * 100), 4)
        self.assert_wrong("bar " + "|".join(["1/4 C4"] * 65 + ["x"]), 4 + 65 * 7)

    def test_the_first_wrong_part_counts(self):
        self.assert_wrong("cut x y", 4)
        self.assert_wrong("cut 0 y", 6)
        self.assert_wrong("cut 0 y 1 1", 6)
        self.assert_wrong("cut 0 1 z 1", 8)
        self.assert_wrong("then x", 5)

    def test_the_first_wrong_line_counts(self):
        self.assert_raises(BadScoreText, {"line": 2, "position": 5}, read_score, BAR + "\nthen 0 9\nthen x\nx")
        self.assert_raises(BadScoreText, {"line": 1, "position": 0}, read_score, "bar 1/4 C4\n\nbar x")

    def test_the_error(self):
        self.assert_error_class(BadScoreText)


class ThenBadScore(Case):
    def assert_bad(self, number, reason, *lines):
        self.assert_raises(BadScore, {"number": number, "reason": reason}, read_score, "\n".join(lines))

    def test_each_reason(self):
        self.assert_bad(1, "rule", BAR, "then 0 1", "times 0 0")
        self.assert_bad(1, "rule", BAR, "then -1 0")
        self.assert_bad(0, "rule", "then 0 0", BAR)
        self.assert_bad(1, "voices", BAR, "bar 1/4 -")
        self.assert_bad(1, "times", BAR, "times 0 0")
        self.assert_bad(1, "times", BAR, "times 0 -5")
        self.assert_bad(1, "times", BAR, "times 0 1000000000001")
        self.assert_bad(1, "interval", BAR, "turn 0 1001,0")
        self.assert_bad(1, "interval", BAR, "turn 0 0,-1001")
        self.assert_bad(1, "pace", BAR, "pace 0 1001")
        self.assert_bad(1, "pace", BAR, "pace 0 1/1001")
        self.assert_bad(1, "cut", BAR, "cut 0 1 1")
        self.assert_bad(1, "cut", BAR, "cut 0 -1 1")
        self.assert_bad(1, "cut", BAR, "cut 0 0 3")
        self.assert_bad(2, "large", BAR, "times 0 500000000000", "times 1 2")
        self.assert_bad(1, "large", "bar 1/4 " + "C1000", "raise 0 P8")
        for order in ("0", "0,0", "1,2", "0,1,2", "-1,0", "0,5"):
            self.assert_bad(1, "voices", BAR, "voices 0 " + order)

    def test_numbers_of_30_figures(self):
        for number in (GREAT, "-" + GREAT):
            self.assert_bad(1, "rule", BAR, f"then {number} 0")
            self.assert_bad(1, "rule", BAR, f"then 0 {number}")
            self.assert_bad(1, "times", BAR, f"times 0 {number}")
            self.assert_bad(1, "interval", BAR, f"turn 0 {number},0")
            self.assert_bad(1, "interval", BAR, f"turn 0 0,{number}")
            self.assert_bad(1, "voices", BAR, f"voices 0 0,{number}")
            self.assert_bad(1, "cut", BAR, f"cut 0 {number} {GREAT}")
            self.assert_bad(1, "cut", BAR, f"cut 0 0 {number}")
        self.assert_bad(1, "pace", BAR, f"pace 0 {GREAT}")
        self.assert_bad(1, "pace", BAR, f"pace 0 1/{GREAT}")
        self.assert_bad(1, "pace", BAR, f"pace 0 {GREAT}/{10 ** 29}")

    def test_60_and_61_lines(self):
        self.assertEqual(60, len(read_score("\n".join([BAR] * 60)).rules))
        self.assert_bad(None, "count", *[BAR] * 61)
        self.assert_bad(None, "count", *["then 5 5"] * 61)


if __name__ == "__main__":
    unittest.main()

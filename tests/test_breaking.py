"""Promises [L1] to [L4] and [L7]: counterheld.breaking."""

import random
import unittest
from fractions import Fraction

from counterheld.books import Book
from counterheld.breaking import (
    BadPieces, BadRoom, badness, best_lines, breaking_at, breaking_count, breaking_index, ends_of, line_potentials, pieces_of,
    shows_lines, turns_of,
)
from counterheld.broken import state_behind
from counterheld.moments import NoColumn, columns, moment_of
from counterheld.pages import best_pages, page_potentials, shows_pages
from counterheld.scores import Score, TooLong
from tests import plainbooks, plainly
from tests.checks import Case, within
from tests.plainlines import PlainLines, pair, some_pieces
from tests.plainlines import badness as plain_badness
from tests.plainpapers import deep

PIECE = ((2, 1), (1, 1), (0, 1))
EXAMPLE = (PIECE,) * 3
ROOMS = ((3, 1), (5, 1), (7, 2), (8, 1), (40, 1))
ANYTHING = (None, True, False, 0, 1, -1, 10 ** 40, "", "abc", (), [], {}, {0: 0}, (0,), (None,), [0], deep(44), (deep(43),))


class Lines(Case):
    """[L1], [L2] and [L3] against all breakings."""

    def check(self, pieces, room):
        plain = PlainLines(pieces, room)
        for (first, stop), bad in plain.bad.items():
            self.assert_answer(bad, badness, pieces, first, stop, room)
        wanted = plain.breakings()
        self.assert_answer(len(wanted), breaking_count, pieces, room)
        self.assert_answer(plain.best(), best_lines, pieces, room)
        for index in within({0, 1, 2, len(wanted) // 2, len(wanted) - 1}, len(wanted)):
            self.assert_answer(wanted[index], breaking_at, pieces, room, index)
            self.assert_answer(index, breaking_index, pieces, room, wanted[index])
            self.assert_answer(index, breaking_index, list(pieces), list(room), list(wanted[index]))
            for wrong in (wanted[index][:-1], wanted[index] + (len(pieces) + 1,), wanted[index] + wanted[index][-1:], wanted[index][::-1]):
                if wrong not in wanted:
                    self.assert_answer(None, breaking_index, pieces, room, wrong)
        for index in (len(wanted), len(wanted) + 1, 10 ** 130, -1):
            self.assert_answer(None, breaking_at, pieces, room, index)
        return len(wanted)

    def test_of_chance(self):
        chance = random.Random(241)
        met = 0
        for _ in range(150):
            met += self.check(some_pieces(chance, chance.choice((1, 2, 5, 8, 10))), chance.choice(ROOMS)) > 3
        for _ in range(4):
            self.check(some_pieces(chance, 12), chance.choice(ROOMS))
        self.assertGreater(met, 30)

    def test_ends_that_are_no_breaking(self):
        chance = random.Random(242)
        for _ in range(20):
            pieces, room = some_pieces(chance, 5), chance.choice(ROOMS)
            wanted = PlainLines(pieces, room).breakings()
            for number in range(64):
                ends = tuple(k for k in range(6) if number >> k & 1)
                self.assert_answer(wanted.index(ends) if ends in wanted else None, breaking_index, pieces, room, ends)
        for ends in ((), (0,), (True, 2, 3), (1, 2, 3, 3), (3, 2, 1), (-1, 3), (1, 2), (2, 1, 3), (1, 2, 4), (3,), (10 ** 40,), (None,), ("3",)):
            self.assert_answer(None, breaking_index, EXAMPLE, (5, 1), ends)

    def test_ties(self):
        # All lines are of the same badness: of one sum, the fewer lines, then the ends that come first.
        free = (((0, 1), (0, 1), (0, 1)),) * 5
        self.assert_answer((0, (5,)), best_lines, free, (1, 1))
        self.assert_answer((((0, (1, 3, 5)))), best_lines, (((1, 1), (0, 1), (0, 1)),) + (((1, 2), (0, 1), (0, 1)),) * 4, (1, 1))
        even = (((1, 1), (1, 1), (1, 1)),) * 4
        self.check(even, (2, 1))
        self.check(even, (3, 1))
        self.check(even, (1, 1))
        pieces = (((0, 1), (0, 1), (0, 1)), ((2, 1), (0, 1), (0, 1)), ((0, 1), (0, 1), (0, 1)), ((2, 1), (0, 1), (0, 1)))
        self.assert_answer((0, (2, 4)), best_lines, pieces, (2, 1))

    def test_edges_of_what_fits(self):
        for width, stretch, shrink, room, told in (
            ((3, 1), (0, 1), (0, 1), (3, 1), 0), ((2, 1), (0, 1), (0, 1), (3, 1), None), ((2, 1), (1, 1000), (0, 1), (3, 1), 10 ** 9),
            ((4, 1), (9, 1), (1, 1), (3, 1), 1000), ((4, 1), (9, 1), (999, 1000), (3, 1), None), ((4, 1), (0, 1), (2, 1), (3, 1), 250),
            ((4, 1), (9, 1), (0, 1), (3, 1), None), ((2, 1), (3, 1), (0, 1), (3, 1), 111), ((0, 1), (10 ** 6, 1), (0, 1), (1, 1000), 0),
        ):
            pieces = ((width, stretch, shrink), PIECE)
            self.assert_answer(told, badness, pieces, 0, 1, room)
        self.assert_answer(0, badness, EXAMPLE, 2, 3, (3, 1))
        self.assert_answer(None, badness, EXAMPLE, 2, 3, (1, 1))
        self.assert_answer(1000, badness, (PIECE, ((4, 1), (0, 1), (1, 1))), 1, 2, (3, 1))

    def test_example(self):
        for line, told in {(0, 1): 9000, (1, 2): 9000, (0, 2): 250, (1, 3): 0, (2, 3): 0, (0, 3): None}.items():
            self.assert_answer(told, badness, EXAMPLE, *line, (5, 1))
        self.assert_answer((250, (2, 3)), best_lines, EXAMPLE, (5, 1))
        for index, ends in enumerate(((1, 2, 3), (1, 3), (2, 3), None)):
            self.assert_answer(ends, breaking_at, EXAMPLE, (5, 1), index)
        self.assert_answer((0, 9000, 250, 250), line_potentials, EXAMPLE, (5, 1))


class ManyPieces(Case):
    """Rows of up to 400 pieces."""

    def test_sixty_and_four_hundred(self):
        chance = random.Random(243)
        for many, parts in ((60, (1, 2, 3)), (400, (1, 2, 7)), (400, tuple(range(900, 1000)))):
            pieces, room = some_pieces(chance, many, parts), (37, 3)
            total, ends = best_lines(pieces, room)
            count = breaking_count(pieces, room)
            for index in (0, 1, count // 3, count - 1):
                told = breaking_at(pieces, room, index)
                self.assertEqual(index, breaking_index(pieces, room, told))
                sums = sum(badness(pieces, first, stop, room) for first, stop in zip((0,) + told[:-1], told))
                self.assertGreaterEqual(sums, total)
            self.assertEqual(total, sum(plain_badness(pieces, first, stop, room) for first, stop in zip((0,) + ends[:-1], ends)))
            self.assert_answer(None, breaking_at, pieces, room, count)
            told = line_potentials(pieces, room)
            self.assertEqual(total, told[-1])
            self.assertTrue(shows_lines(pieces, room, told, total))
            self.assertFalse(shows_lines(pieces, room, told, total + 1))

    def test_all_breakings_fit(self):
        pieces = (((0, 1), (1, 1), (0, 1)),) * 400
        self.assert_answer(2 ** 399, breaking_count, pieces, (1, 1))
        self.assert_answer(tuple(range(1, 401)), breaking_at, pieces, (1, 1), 0)
        self.assert_answer((400,), breaking_at, pieces, (1, 1), 2 ** 399 - 1)
        self.assert_answer(2 ** 398, breaking_index, pieces, (1, 1), (2,) + tuple(range(3, 401)))
        self.assert_answer((0, (400,)), best_lines, pieces, (1, 1))

    def test_nothing_fits(self):
        pieces = (((2, 1), (0, 1), (0, 1)),) * 400
        self.assert_answer(None, best_lines, pieces, (3, 1))
        self.assert_answer(0, breaking_count, pieces, (3, 1))
        self.assert_answer(None, breaking_at, pieces, (3, 1), 0)
        self.assert_answer((0,) + (None,) * 400, line_potentials, pieces, (3, 1))
        self.assert_answer(True, shows_lines, pieces, (3, 1), (0,) + (None,) * 400, None)


class Potentials(Case):
    """[L4]"""

    def test_of_chance(self):
        chance = random.Random(244)
        for _ in range(80):
            pieces, room = some_pieces(chance, chance.choice((1, 3, 8))), chance.choice(ROOMS)
            plain = PlainLines(pieces, room)
            told = plain.potentials()
            self.assert_answer(told, line_potentials, pieces, room)
            self.assert_answer(told[-1] is None, shows_lines, pieces, room, told, None)
            if told[-1] is not None:
                self.assertEqual(told[-1], best_lines(pieces, room)[0])
            for total in (-5, 0, 1, 10 ** 60) + (() if told[-1] is None else (told[-1], told[-1] + 1)):
                self.assert_answer(told[-1] is None or told[-1] >= total, shows_lines, pieces, room, told, total)
            for _ in range(30):
                other = list(told)
                at = chance.randrange(len(other))
                other[at] = chance.choice((None, 0, 7, -3, 10 ** 50, other[at] and other[at] + 1, other[at] and other[at] - 1))
                wanted = plain.are_potentials(other)
                for total in (0, told[-1], other[-1]):
                    shown = other[-1] is None if total is None else other[-1] is None or other[-1] >= total
                    self.assert_answer(wanted and shown, shows_lines, pieces, room, tuple(other), total)

    def test_wrong_forms(self):
        good = (0, 9000, 250, 250)
        self.assert_answer(True, shows_lines, EXAMPLE, (5, 1), good, 250)
        self.assert_answer(True, shows_lines, EXAMPLE, (5, 1), (0, -1, -2, -3), -3)
        self.assert_answer(False, shows_lines, EXAMPLE, (5, 1), (0, -1, -2, -3), -2)
        for told in ANYTHING + (list(good), good[:3], good + (250,), (False,) + good[1:], (0, True, 250, 250), (0, 9000, 250, True), (0, "9000", 250, 250), (0, (9000,), 250, 250)):
            for total in (0, None, -9):
                self.assert_answer(False, shows_lines, EXAMPLE, (5, 1), told, total)
        for total in ANYTHING:
            wanted = type(total) is int and total <= 250
            self.assert_answer(wanted, shows_lines, EXAMPLE, (5, 1), good, total)


class Wrong(Case):
    PAGED = (best_pages, page_potentials)

    def refuse(self, error, attributes, pieces, room):
        self.assert_raises(error, attributes, badness, pieces, 0, 1, room)
        for function in (best_lines, breaking_count, line_potentials):
            self.assert_raises(error, attributes, function, pieces, room)
        self.assert_raises(error, attributes, breaking_at, pieces, room, 0)
        self.assert_raises(error, attributes, breaking_index, pieces, room, (1,))
        self.assert_raises(error, attributes, shows_lines, pieces, room, None, None)
        for function in self.PAGED:
            self.assert_raises(error, attributes, function, pieces, room, None, None, None)
        self.assert_raises(error, attributes, shows_pages, pieces, room, None, None, None, None, None)

    WRONG_FRACTIONS = ((-1, 1), (1, 0), (2, 2), (0, 2), (10 ** 6 + 1, 1), (1, 1001), (True, 1), (1, True), None, 1, True, "11", (1,), (1, 1, 1), {}, deep(40))

    def test_pieces(self):
        for pieces in (None, True, 0, "", "abc", (), [], {}, {0: PIECE}, (PIECE,) * 401):
            for room in ((5, 1), None):
                self.refuse(BadPieces, {"number": None}, pieces, room)
        wrong = [None, 0, "abc", (), {}, PIECE[:2], PIECE + PIECE[:1], {0: 1, 1: 2, 2: 3}, deep(40)]
        wrong += [PIECE[:at] + (part,) + PIECE[at + 1:] for at in range(3) for part in self.WRONG_FRACTIONS]
        wrong += [((1, 1), (1, 1), (2, 1)), ((1, 1), (1, 1), (1001, 1000)), ((0, 1), (1, 1), (1, 1000))]
        for piece in wrong:
            self.refuse(BadPieces, {"number": 0}, (piece,), None)
            self.refuse(BadPieces, {"number": 2}, [PIECE, PIECE, piece, None], (5, 1))
        self.refuse(BadPieces, {"number": 399}, (PIECE,) * 399 + (wrong[-1],), (5, 1))

    def test_room(self):
        for room in self.WRONG_FRACTIONS + ((0, 1),):
            self.refuse(BadRoom, {}, EXAMPLE, room)

    def test_just_right(self):
        edge = ((10 ** 6, 999), (0, 1), (10 ** 6, 999))
        self.assert_answer(1, breaking_count, (edge,), (1, 1000))
        self.assert_answer(1, breaking_count, [list(map(list, edge))], [10 ** 6, 1])
        self.assert_answer((0, (1,)), best_lines, (PIECE,), (2, 1))
        for error in (BadPieces, BadRoom):
            self.assert_error_class(error)


class OfScores(Case):
    """ends_of, pieces_of and turns_of."""

    def plain_pieces(self, row, first, ends, base):
        told = []
        for begin, end in zip((first,) + ends[:-1], ends):
            length = sum(Fraction(*column[0]) for column in row[begin:end])
            wide = Fraction(*base) * (end - begin)
            told.append((pair(wide + length), pair(length), pair(wide / 2)))
        return tuple(told)

    def plain_turns(self, row, first, ends):
        told = []
        for begin in (first,) + ends[:-1]:
            ahead = row[begin - 1][2] if begin > 0 else (None,) * 4
            told.append(sum(1 for one, other in zip(ahead, row[begin][2]) if one and other and not other[1] and one[0] == other[0]))
        return tuple(told)

    def check(self, chance, score, row, shift):
        """The row has the columns from shift on, at least as many as are asked for; one more stands ahead, if there is one."""
        many = min(400, len(row) - 1)
        first = chance.randrange(len(row) - many + 1) if len(row) > many else 0
        stop = min(len(row), first + many)
        tests, states = plainbooks.some_book(chance, 6, chance.choice((2, 6)), 4, moves=plainbooks.moves_of(row))
        book = Book(tests, states)
        wanted = tuple(chance.sample(range(len(states)), chance.randint(0, len(states))))
        told = tuple(
            e for e in range(first + 1, stop) if state_behind(score, book, shift + e - 1) in wanted) + (stop,)
        told = tuple(shift + e for e in told)
        self.assert_answer(told, ends_of, score, book, wanted, shift + first, shift + stop)
        self.assert_answer(told, ends_of, score, book, list(wanted), shift + first, shift + stop)
        inner = tuple(e - shift for e in told)
        base = chance.choice(((1, 1), (0, 1), (7, 3), (1, 1000)))
        pieces = self.plain_pieces(row, first, inner, base)
        if max(max(part) for piece in pieces for part in piece) <= 1000:
            self.assert_answer(pieces, pieces_of, score, shift + first, told, base)
        if first > 0 or shift == 0:
            self.assert_answer(self.plain_turns(row, first, inner), turns_of, score, shift + first, told)
            self.assert_answer(self.plain_turns(row, first, inner), turns_of, score, shift + first, list(told))

    def test_few_columns(self):
        chance = random.Random(245)
        for _ in range(80):
            rules = plainly.some_rules(chance, chance.randint(1, 12), chance.choice((20, 500)))
            row = plainly.written(rules)[-1]
            if len(row) > 1:
                self.check(chance, Score(rules), row, 0)

    def test_many_columns(self):
        chance = random.Random(246)
        for _ in range(12):
            rules, _ = plainly.great_rules(chance, chance.choice((4, 12, 40)))
            score = Score(rules)
            for shift in within({0, score.count - 403, score.count // 2}, score.count - 402):
                self.check(chance, score, columns(score, shift, min(score.count, shift + 402)), shift)

    def test_refusals_of_parts(self):
        score = Score((("bar", (((1, 4), 0, (None,)),) * 50), ("times", 0, 10)))
        book = Book((), ((),))
        for first, stop, number in ((-1, 0, -1), (500, 501, 500), (0, 0, 0), (0, 501, 501), (5, 5, 5)):
            self.assert_raises(NoColumn, {"number": number}, ends_of, score, book, (0,), first, stop)
        self.assert_raises(TooLong, {}, ends_of, score, book, (0,), 0, 401)
        self.assert_answer(tuple(range(101, 501)), ends_of, score, book, (0,), 100, 500)
        self.assert_answer((500,), ends_of, score, book, (), 100, 500)
        for function, more in ((pieces_of, ((1, 1),)), (turns_of, ())):
            for first, ends, number in (
                (-1, (1,), -1), (500, (501,), 500), (0, (0,), 0), (0, (3, 3), 3), (0, (3, 2, 501), 2), (0, (3, 501), 501), (7, (5,), 5),
                (0, (450, 501), 501), (0, (450, 449), 449),
            ):
                self.assert_raises(NoColumn, {"number": number}, function, score, first, ends, *more)
            self.assert_raises(TooLong, {}, function, score, 0, (401,), *more)
            self.assert_raises(TooLong, {}, function, score, 99, (100, 499, 500), *more)
            self.assertEqual(2, len(function(score, 100, (101, 500), *more)))
            self.assertEqual(400, len(function(score, 100, tuple(range(101, 501)), *more)))
        self.assert_raises(TooLong, {}, pieces_of, score, 0, (401,), (-1, 1))

    def test_wrong_pieces(self):
        score = Score((("bar", (((1, 4), 0, (None,)), ((1, 997), 0, (None,)))), ("times", 0, 4)))
        self.assert_raises(BadPieces, {"number": 0}, pieces_of, score, 0, (1, 2), (-1, 1))
        self.assert_raises(BadPieces, {"number": 1}, pieces_of, score, 0, (1, 3, 4), (1, 1))
        self.assert_raises(BadPieces, {"number": 0}, pieces_of, score, 0, (1,), (10 ** 6 + 2, 1))
        self.assert_raises(BadPieces, {"number": 0}, pieces_of, score, 0, (1,), (1, 999))
        self.assert_raises(BadPieces, {"number": 2}, pieces_of, score, 0, (1, 2, 4), (1, 1))
        self.assert_answer((((5, 4), (1, 4), (1, 2)), ((998, 997), (1, 997), (1, 2))), pieces_of, score, 2, [3, 4], [1, 1])

    def test_a_note_that_goes_on(self):
        held = ((1, 4), 0, (((0, 4), False), ((1, 4), False), None, ((2, 4), True)))
        score = Score((("bar", (held, held)), ("times", 0, 10 ** 11)))
        self.assert_answer((0, 2, 2), turns_of, score, 0, (1, 3, 4))
        self.assert_answer((2,), turns_of, score, 10 ** 11, (10 ** 11 + 400,))


if __name__ == "__main__":
    unittest.main()

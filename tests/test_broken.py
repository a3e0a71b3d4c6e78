"""Promises [E3], [F1] and [F2]: counterheld.broken."""

import random
import unittest
from fractions import Fraction

from counterheld.books import Book, moved
from counterheld.broken import (
    NoBroken, broken, broken_count, broken_in, first_broken, last_broken, lets, state_behind, why,
)
from counterheld.moments import NoColumn, columns
from counterheld.scores import Score
from tests import plainbooks, plainly
from tests.checks import Case, within

MOST = 10 ** 12
C, G = (0, 4), (1, 4)


def bar(*accents):
    return tuple(((1, 4), accent, ((C, True),)) for accent in accents)


def counting_book(many):
    """A book that breaks every so manyth column with the accent 1, at most 24."""
    states = [(((0,), (), (state + 1) % many, state == many - 1),) for state in range(many)]
    return Book((("accent", 1),), states)


class FewColumns(Case):
    def check(self, rules, plain):
        score, row, book = Score(rules), plainly.written(rules)[-1], Book(*plain)
        told = plainbooks.run(plain, row)
        wanted = [n for n, (_, is_broken) in enumerate(told) if is_broken]
        self.assert_answer(len(wanted), broken_count, score, book)
        self.assert_answer(not wanted, lets, score, book)
        self.assert_answer(wanted[0] if wanted else None, first_broken, score, book)
        self.assert_answer(wanted[-1] if wanted else None, last_broken, score, book)
        for number, column in enumerate(wanted):
            self.assert_same(column, broken(score, book, number))
        for number in (-1, len(wanted), len(wanted) + 1):
            self.assert_raises(NoBroken, {}, broken, score, book, number)
        state, before = 0, plainbooks.silence(score.voices)
        for number, column in enumerate(row):
            self.assert_same(told[number][0], state_behind(score, book, number))
            held = tuple(k for k, test in enumerate(plain[0]) if plainbooks.holds(test, before, column))
            applies = plainbooks.applying(plain, state, before, column)[0]
            self.assert_same((state, held, applies) + told[number], why(score, book, number))
            state, before = told[number][0], column
        return wanted

    def check_parts(self, rules, plain, parts):
        score, book = Score(rules), Book(*plain)
        wanted = plainbooks.broken(plain, plainly.written(rules)[-1])
        for first, stop in parts:
            self.assert_answer(sum(first <= n < stop for n in wanted), broken_in, score, book, first, stop)

    def test_of_chance(self):
        chance = random.Random(71)
        met = 0
        for _ in range(200):
            rules = plainly.some_rules(chance, chance.randint(1, 20))
            moves = plainbooks.moves_of(plainly.written(rules)[-1])
            plain = plainbooks.some_book(chance, chance.randint(0, 16), chance.randint(1, 24), chance.randint(0, 16), moves=moves)
            met += len(self.check(rules, plain)) > 0
            count = Score(rules).count
            parts = [(first, chance.randint(first + 1, count)) for first in [chance.randrange(count) for _ in range(8)]]
            self.check_parts(rules, plain, parts + [(0, count)])
        self.assertGreater(met, 60)

    def test_every_part(self):
        chance = random.Random(72)
        for _ in range(6):
            rules = plainly.some_rules(chance, 12, 30)
            count = Score(rules).count
            plain = plainbooks.some_book(chance, 8, 6, 8)
            self.check_parts(rules, plain, [(first, stop) for first in range(count) for stop in range(first + 1, count + 1)])

    def test_sixty_rules(self):
        chance = random.Random(73)
        for _ in range(8):
            rules = plainly.some_rules(chance, 60, 150)
            self.check(rules, plainbooks.some_book(chance, 12, 10, 8, moves=plainbooks.moves_of(plainly.written(rules)[-1])))

    def test_copies(self):
        chance = random.Random(74)
        for _ in range(60):
            rules = plainly.some_rules(chance, chance.randint(1, 5), 12)
            rules += (("times", len(rules) - 1, chance.randint(2, 40)), ("times", chance.randrange(len(rules) + 1), chance.randint(1, 3)))
            rules += (("cut", len(rules) - 1, chance.randrange(3), Score(rules).count - chance.randrange(3)),) if Score(rules).count > 8 else ()
            self.check(rules, plainbooks.some_book(chance, 10, 8, 8))

    def test_one_exact_test(self):
        """Every move of a score by the tests that just hold of it, over the ends of rules that raise, turn, pace and exchange."""
        chance = random.Random(79)
        for _ in range(60):
            rules = plainly.some_rules(chance, chance.randint(4, 14), 40)
            for move in plainbooks.moves_of(plainly.written(rules)[-1]):
                test = plainbooks.test_of_move(chance, *move)
                self.check_count(rules, ((test,), ((((0,), (), 0, True),),)))

    def check_count(self, rules, plain):
        wanted = plainbooks.broken(plain, plainly.written(rules)[-1])
        self.assertEqual(wanted, [broken(Score(rules), Book(*plain), k) for k in range(broken_count(Score(rules), Book(*plain)))])

    def test_over_ends_of_rules(self):
        columns = (((1, 4), 1, ((C, True), (G, True))), ((1, 3), 0, (((3, 2), True), ((-2, 5), True))))
        rows = (("raise", 0, (3, -1)), ("raise", 0, (0, 1)), ("raise", 0, (1, 0)), ("turn", 0, (2, 7)), ("turn", 0, (0, 8)), ("pace", 0, (3, 5)), ("voices", 0, (1, 0)))
        for one in rows:
            for other in rows:
                for third in rows:
                    rules = (("bar", columns), one, (other[0], 1, other[2]), ("then", 0, 2), ("then", 3, 1), (third[0], 4, third[2]), ("then", 5, 0))
                    row = plainly.written(rules)[-1]
                    score = Score(rules)
                    for number in (2, 4, 6):
                        (n, d), (m, e) = row[number - 1][0], row[number][0]
                        times = Fraction(m * d, e * n)
                        pair = (times.numerator, times.denominator)
                        f, o = [row[number][2][1][0][k] - row[number - 1][2][1][0][k] for k in (0, 1)]
                        tests = (("lasts", pair, pair), ("by", 1, ((f, o),)), ("leap", 1, 7 * f + 12 * o, 7 * f + 12 * o))
                        book = Book(tests, ((((0, 1, 2), (), 0, True), ((0,), (), 1, True)), ()))
                        self.assertEqual(plainbooks.broken((book.tests, book.states), row), [broken(score, book, k) for k in range(broken_count(score, book))])
                        self.assertTrue(why(score, book, number)[1] == (0, 1, 2))

    def test_books_that_break_all_or_nothing(self):
        rules = (("bar", bar(0, 1, 1)), ("times", 0, 7), ("turn", 1, (0, 8)), ("then", 2, 1))
        self.assertEqual(list(range(42)), self.check(rules, ((), ((((), (), 0, True),),))))
        self.assertEqual([], self.check(rules, ((), ((((), (), 0, False),),))))
        self.assertEqual([], self.check(rules, ((), ((),))))
        self.assertEqual([0], self.check(rules, ((), ((((), (), 1, True),), ()))))


class ManyColumns(Case):
    def test_states_that_come_round_after_some_copies(self):
        """A book that counts, about copies with a number of columns that goes into nothing."""
        for many in (1, 2, 7, 24):
            for ones in ((1,), (1, 0, 1, 0, 0), (0, 1, 1, 1)):
                copies = 10 ** 11 + 7
                score = Score((("bar", bar(*ones)), ("times", 0, copies)))
                book = counting_book(many)
                places = [k for k, accent in enumerate(ones) if accent]
                total = copies * len(places) // many
                self.assert_answer(total, broken_count, score, book)

                def column_of(k):
                    copy, place = divmod(k, len(places))
                    return copy * len(ones) + places[place]

                for number in (0, 1, 2, 10 ** 9, total // 2, total - 2, total - 1):
                    self.assert_answer(column_of(number * many + many - 1), broken, score, book, number)
                self.assert_answer(column_of(many - 1), first_broken, score, book)
                self.assert_answer(column_of(total * many - 1), last_broken, score, book)
                for number in (0, 5, 10 ** 10, score.count - 1):
                    ahead = sum(1 for _ in places if _ <= number % len(ones)) + number // len(ones) * len(places)
                    self.assert_answer(ahead % many, state_behind, score, book, number)
                    self.assert_answer(ahead // many, broken_in, score, book, 0, number + 1)

    def periodic(self, plain, row, many):
        """The number of broken columns in so many copies, and the state behind them: by the states that come round."""
        state, before = 0, None
        states, counts = [], []
        for _ in range(many):
            if (state, before) in states:
                break
            states.append((state, before))
            told = plainbooks.run(plain, row, state, before)
            counts.append(sum(is_broken for _, is_broken in told))
            state, before = told[-1][0], row[-1]
        else:
            return sum(counts), state
        start = states.index((state, before))
        length = len(states) - start
        rounds, rest = divmod(many - start, length)
        total = sum(counts[:start]) + rounds * sum(counts[start:]) + sum(counts[start:start + rest])
        behind = states[start + rest][0] if start + rest < len(states) else state
        return total, behind

    def test_copies_of_chance(self):
        chance = random.Random(75)
        for _ in range(80):
            rules = plainly.some_rules(chance, chance.randint(1, 8), 20)
            row = plainly.written(rules)[-1]
            plain = plainbooks.some_book(chance, 8, 24, 8)
            for many in (1, 2, 3, 30, 10 ** 9 + chance.randrange(100)):
                score, book = Score(rules + (("times", len(rules) - 1, many),)), Book(*plain)
                total, behind = self.periodic(plain, row, many)
                self.assert_answer(total, broken_count, score, book)
                self.assert_answer(behind, state_behind, score, book, score.count - 1)
                nested = Score(rules + (("times", len(rules) - 1, 5), ("times", len(rules), many)))
                self.assert_answer(self.periodic(plain, row, 5 * many)[0], broken_count, nested, book)

    def check(self, chance, rules, counts, plain):
        """What is told of columns is what the moves into them make of what is told of the columns ahead."""
        score, book, last = Score(rules), Book(*plain), len(rules) - 1
        numbers = {0, 1, counts[-1] - 1, counts[-1] // 2} | {chance.randrange(counts[-1]) for _ in range(12)}
        numbers |= {size + k for size in counts for k in (-1, 0)}
        for number in sorted(n for n in numbers if 0 <= n < counts[-1]):
            state, before = 0, plainbooks.silence(score.voices)
            if number > 0:
                state = state_behind(score, book, number - 1)
                before = plainly.column_of(rules, counts, last, number - 1)
            column = plainly.column_of(rules, counts, last, number)
            following, is_broken = plainbooks.moved(plain, state, before, column)
            self.assertEqual(following, state_behind(score, book, number))
            held = tuple(k for k, test in enumerate(plain[0]) if plainbooks.holds(test, before, column))
            applies = plainbooks.applying(plain, state, before, column)[0]
            self.assert_answer((state, held, applies, following, is_broken), why, score, book, number)
            self.assert_answer(int(is_broken), broken_in, score, book, number, number + 1)
            many = broken_in(score, book, 0, number + 1)
            if is_broken:
                self.assert_answer(number, broken, score, book, many - 1)
            stop = min(counts[-1], number + 40)
            wanted = plainbooks.run(plain, columns(score, number, stop), state, before)
            self.assertEqual(sum(told[1] for told in wanted), broken_in(score, book, number, stop))
        total = broken_count(score, book)
        self.assertEqual(total, broken_in(score, book, 0, counts[-1]))
        for number in within({0, total // 3, total - 1}, total):
            column = broken(score, book, number)
            self.assertTrue(why(score, book, column)[4])
            self.assertEqual(number + 1, broken_in(score, book, 0, column + 1))
        self.assertEqual((broken(score, book, 0), broken(score, book, total - 1)) if total else (None, None), (first_broken(score, book), last_broken(score, book)))
        self.assert_raises(NoBroken, {}, broken, score, book, total)

    def test_great_scores(self):
        chance = random.Random(76)
        for _ in range(20):
            rules, counts = plainly.great_rules(chance, chance.choice((6, 25, 60)))
            last, numbers = len(rules) - 1, [chance.randrange(counts[-1]) for _ in range(20)] + counts
            moves = [(plainly.column_of(rules, counts, last, n), plainly.column_of(rules, counts, last, n + 1)) for n in numbers if n + 1 < counts[-1]]
            self.check(chance, rules, counts, plainbooks.some_book(chance, 12, chance.choice((1, 5, 24)), 8, moves=moves))

    def test_great_scores_that_can_be_written(self):
        chance = random.Random(77)
        for _ in range(15):
            rules, counts = plainly.great_rules(chance, 50, 3000)
            row = plainly.written(rules)[-1]
            plain = plainbooks.some_book(chance, 10, 8, 8, moves=plainbooks.moves_of(row))
            wanted = plainbooks.broken(plain, row)
            score, book = Score(rules), Book(*plain)
            self.assert_answer(len(wanted), broken_count, score, book)
            for number in within({0, len(wanted) // 2, len(wanted) - 1}, len(wanted)):
                self.assert_answer(wanted[number], broken, score, book, number)
            for _ in range(6):
                first = chance.randrange(counts[-1])
                stop = chance.randint(first + 1, counts[-1])
                self.assert_answer(sum(first <= n < stop for n in wanted), broken_in, score, book, first, stop)

    def test_books_and_scores_asked_by_turns(self):
        scores = [Score((("bar", bar(*ones)), ("times", 0, 10 ** 9))) for ones in ((1, 1), (1, 0, 0))]
        books = [counting_book(2), counting_book(3)]
        for _ in range(2):
            self.assertEqual([[10 ** 9, 2 * 10 ** 9 // 3], [10 ** 9 // 2, 10 ** 9 // 3]], [[broken_count(score, book) for book in books] for score in scores])
        many = [counting_book(1 + k % 24) for k in range(60)]
        for _ in range(2):
            self.assertEqual([2 * 10 ** 9 // (1 + k % 24) for k in range(60)], [broken_count(scores[0], book) for book in many])


    def test_very_many_questions(self):
        """What is kept of a score does not grow without end, and is right when it begins anew."""
        chance = random.Random(78)
        score, book = Score((("bar", bar(1, 0, 1)), ("times", 0, 3 * 10 ** 11))), counting_book(5)
        for _ in range(8000):
            number = chance.randrange(score.count)
            ahead = 2 * (number // 3) + (1, 1, 2)[number % 3]
            self.assertEqual(ahead % 5, state_behind(score, book, number))
        self.assertLess(len(score.plan.folds[book].parts), 110000)


class Letting(Case):
    def test_lets(self):
        score = Score((("bar", bar(0, 0)), ("times", 0, 10 ** 11), ("bar", bar(1)), ("then", 1, 2)))
        self.assert_answer(False, lets, score, counting_book(1))
        self.assert_answer(True, lets, score, counting_book(2))
        self.assert_answer(2 * 10 ** 11, first_broken, score, counting_book(1))
        self.assert_answer(None, first_broken, score, counting_book(2))
        self.assert_answer(None, last_broken, score, counting_book(2))

    def test_a_test_of_column_0(self):
        book = Book((("loose", 0),), ((((0,), (), 0, True),),))
        score = Score((("bar", (((1, 4), 0, ((C, False),)),)), ("times", 0, 10 ** 11), ("raise", 1, (1, 0)), ("then", 1, 2)))
        self.assert_answer(2, broken_count, score, book)
        self.assert_same((0, 10 ** 11), (broken(score, book, 0), broken(score, book, 1)))


class Wrong(Case):
    SCORE = Score((("bar", bar(0, 1, 1)), ("times", 0, 10)))

    def test_no_broken(self):
        for number in (-1, -20, 20, 21, 10 ** 40):
            self.assert_raises(NoBroken, {}, broken, self.SCORE, counting_book(1), number)
        self.assert_answer(29, broken, self.SCORE, counting_book(1), 19)
        self.assert_raises(NoBroken, {}, broken, self.SCORE, counting_book(24), 0)

    def test_no_column(self):
        book = counting_book(3)
        for number in (-1, -30, 30, 31, 10 ** 40):
            self.assert_raises(NoColumn, {"number": number}, state_behind, self.SCORE, book, number)
            self.assert_raises(NoColumn, {"number": number}, why, self.SCORE, book, number)
            for stop in (number, 5, 30, 99):
                self.assert_raises(NoColumn, {"number": number}, broken_in, self.SCORE, book, number, stop)
        for stop in (-1, 0, 4, 5, 31, 10 ** 40):
            self.assert_raises(NoColumn, {"number": stop}, broken_in, self.SCORE, book, 5, stop)

    def test_the_errors(self):
        self.assert_error_class(NoBroken)


class Example(Case):
    def test_of_the_document(self):
        from counterheld.bartexts import read_bar

        rules = (("bar", read_bar("1/4 C4 C3 | 1/8!1 E4 ~C3")), ("raise", 0, (1, 0)), ("then", 0, 1), ("times", 2, 3), ("turn", 3, (0, 8)))
        score = Score(rules)
        book = Book((("leap", 0, -12, -1), ("accent", 1)), ((((0, 1), (), 0, True),),))
        self.assert_same(
            (6, 5, (0, (0, 1), 0, 0, True), (0, (0,), None, 0, False)),
            (broken_count(score, book), broken(score, book, 2), why(score, book, 1), why(score, book, 2)),
        )
        self.assertEqual((0, True), moved(book, 0, *columns(score, 0, 2)))


if __name__ == "__main__":
    unittest.main()

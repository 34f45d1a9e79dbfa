"""Points 2, 3 and 21: what is told as rows come."""

import itertools
import random
import time
import unittest

from gapcalls.errors import Clash, NoRow, Short
from gapcalls.keeper import Keeper
from gapcalls.standing import may, must
from gapcalls.whole import whole
from reference import Reference, small_books, some_book, some_tight_book, some_true_book
from samples import (
    JOB, LITTLE_TIME, ODD_THINGS, PAIR, SIX, TOWN, all_row, ask, asked, done, job, pairs_of, ring_of_six)

# Either of two asks may have led to b.0, and the other to b.1, of which no row came yet; it ended late.
SOME = asked((10, 20), (10, 40)) + [job(0, 12, 18, house="b"), all_row(0, 2, house="b")]
LATE = job(1, 12, 35, house="b")


def keeper_of(town, rows):
    keeper = Keeper(town)
    for row in rows:
        keeper.come(row)
    return keeper


def told_by(keeper):
    return keeper.is_whole(), keeper.must(), keeper.may()


def told_of(town, rows):
    """What a keeper of the rows must tell, by what is told of a book."""
    try:
        return True, must(town, rows), may(town, rows)
    except Short:
        return False, [], []


class Kept(unittest.TestCase):
    def test_no_rows(self):
        for town in (PAIR, TOWN, (SIX, ())):
            keeper = Keeper(town)
            self.assertEqual(keeper.rows(), [])
            self.assertIs(keeper.is_whole(), True)
            self.assertEqual((keeper.must(), keeper.may()), ([], []))
            self.assertEqual(keeper.brought(), ([], []))

    def test_come_tells_none(self):
        self.assertIsNone(Keeper(PAIR).come(job(0, 0, 1)))

    def test_rows_as_they_came_each_once(self):
        keeper = keeper_of(PAIR, SOME[::-1] + SOME)
        self.assertEqual(keeper.rows(), SOME[::-1])
        self.assertIsNone(keeper.come(SOME[0]))
        self.assertEqual(keeper.rows(), SOME[::-1])

    def test_the_same_as_of_its_rows(self):
        keeper = Keeper(PAIR)
        for count, row in enumerate(SOME + [LATE]):
            keeper.come(row)
            rows = (SOME + [LATE])[:count + 1]
            self.assertEqual(keeper.rows(), rows)
            self.assertEqual(told_by(keeper), told_of(PAIR, rows))
        self.assertEqual(told_by(keeper), (True, pairs_of((0, 0), (1, 1)), pairs_of((0, 0), (1, 1))))

    def test_the_kinds_of_what_is_told(self):
        keeper = keeper_of(PAIR, SOME)
        self.assertIs(keeper.is_whole(), True)
        for told in (keeper.rows(), keeper.must(), keeper.may(), *keeper.brought()):
            self.assertIs(type(told), list)
        self.assertIs(type(keeper.brought()), tuple)

    def test_no_whole_telling_any_more(self):
        keeper = keeper_of(PAIR, asked((10, 20), (10, 20)) + [job(0, 12, 18, house="b")])
        self.assertIs(keeper.is_whole(), True)
        keeper.come(all_row(0, 1, house="b"))
        self.assertIs(keeper.is_whole(), False)
        self.assertEqual((keeper.must(), keeper.may()), ([], []))
        for more in (job(0, 12, 18, house="b"), ask(0, 0, 10, 20), all_row(2, 1)):
            keeper.come(more)
            self.assertEqual(told_by(keeper), (False, [], []))

    def test_told_lists_changed_and_asked_again(self):
        keeper = keeper_of(PAIR, SOME + [LATE])
        kept = (keeper.rows(), keeper.must(), keeper.may(), *keeper.brought())
        for told in (keeper.rows(), keeper.must(), keeper.may(), *keeper.brought()):
            told.clear()
        self.assertEqual((keeper.rows(), keeper.must(), keeper.may(), *keeper.brought()), kept)
        for told in (keeper.rows(), keeper.must(), keeper.may(), *keeper.brought()):
            told.append("more")
        self.assertEqual((keeper.rows(), keeper.must(), keeper.may(), *keeper.brought()), kept)
        keeper.come(job(0, -100, 1000))
        self.assertEqual(keeper.rows(), SOME + [LATE])

    def test_two_keepers_side_by_side(self):
        one, other = Keeper(PAIR), Keeper(PAIR)
        for row in SOME:
            one.come(row)
            self.assertEqual((other.rows(), other.must(), other.may()), ([], [], []))
        for row in (SOME + [LATE])[::-1]:
            other.come(row)
        self.assertEqual(one.rows(), SOME)
        self.assertEqual(told_by(one), told_of(PAIR, SOME))
        self.assertEqual(told_by(other), told_of(PAIR, SOME + [LATE]))
        self.assertNotEqual(told_by(one), told_by(other))


class Refused(unittest.TestCase):
    def setUp(self):
        self.keeper = keeper_of(PAIR, SOME + [LATE])
        self.before = self.everything()

    def everything(self):
        return self.keeper.rows(), told_by(self.keeper), self.keeper.brought()

    def assert_no_row(self, thing):
        with self.assertRaises(NoRow) as caught:
            self.keeper.come(thing)
        self.assertEqual(caught.exception.number, 0)
        self.assertEqual(self.everything(), self.before)

    def assert_clash(self, row, first):
        with self.assertRaises(Clash) as caught:
            self.keeper.come(row)
        self.assertEqual((caught.exception.first, caught.exception.second), (first, len(self.before[0])))
        self.assertEqual(self.everything(), self.before)

    def test_what_is_no_row(self):
        for thing in ODD_THINGS:
            self.assert_no_row(thing)
        for thing in (list(JOB), job(0, 0, 1, house="c"), job(15, 0, 1), job(True, 0, 1), job(0, 1, 0), JOB[:4]):
            self.assert_no_row(thing)

    def test_what_is_no_row_first_of_all(self):
        for thing in ODD_THINGS:
            keeper = Keeper(PAIR)
            with self.assertRaises(NoRow) as caught:
                keeper.come(thing)
            self.assertEqual(caught.exception.number, 0)
            self.assertEqual((keeper.rows(), keeper.brought()), ([], ([], [])))

    def test_the_first_row_that_clashes(self):
        self.assertEqual(self.before[0][:5], [
            ask(0, 0, 10, 20), ask(1, 0, 10, 40), job(0, -100, 1000), all_row(2, 1), job(0, 12, 18, house="b")])
        self.assert_clash(ask(0, 0, 10, 21), 0)
        self.assert_clash(ask(1, 0, 10, 41), 1)
        self.assert_clash(ask(1, 0, 9, 41), 0)
        self.assert_clash(job(0, 50, 60), 0)
        self.assert_clash(job(0, -100, 1001), 2)
        self.assert_clash(all_row(0, 0), 0)
        self.assert_clash(all_row(2, 2), 3)
        self.assert_clash(job(1, 500, 600), 3)
        self.assert_clash(job(2, 500, 600, house="b"), 5)
        self.assert_clash(job(1, 11, 12, house="b"), 4)

    def test_numbers_are_those_of_rows_that_stand_there_once(self):
        keeper = keeper_of(PAIR, [job(0, 0, 1)] * 3 + [job(1, 5, 6)] * 3)
        with self.assertRaises(Clash) as caught:
            keeper.come(job(1, 5, 7))
        self.assertEqual((caught.exception.first, caught.exception.second), (1, 2))

    def test_what_was_refused_may_come_to_another_keeper_and_others_to_this_one(self):
        self.assert_clash(all_row(2, 2), 3)
        self.keeper.come(LATE)
        self.assertEqual(self.keeper.rows(), self.before[0])
        self.assertEqual(self.keeper.brought(), ([], []))
        keeper_of(PAIR, [all_row(2, 2)])

    def test_a_refused_row_leaves_what_the_last_one_brought(self):
        self.assertNotEqual(self.keeper.brought(), ([], []))
        self.assert_no_row(None)
        self.assert_clash(all_row(2, 2), 3)
        self.assertNotEqual(self.keeper.brought(), ([], []))


class Brought(unittest.TestCase):
    def test_ahead_of_any_row(self):
        self.assertEqual(Keeper(PAIR).brought(), ([], []))

    def test_what_must_be_now_and_what_may_be_no_more(self):
        keeper = keeper_of(PAIR, SOME)
        self.assertEqual(told_by(keeper), (True, [], pairs_of((0, 0), (1, 0))))
        keeper.come(LATE)
        self.assertEqual(keeper.brought(), (pairs_of((0, 0), (1, 1)), pairs_of((1, 0))))
        self.assertEqual(keeper.brought(), (pairs_of((0, 0), (1, 1)), pairs_of((1, 0))))

    def test_what_may_be_now_is_not_told(self):
        keeper = keeper_of(PAIR, [ask(0, 0, 10, 20)])
        keeper.come(job(0, 12, 18, house="b"))
        self.assertEqual(keeper.may(), pairs_of((0, 0)))
        self.assertEqual(keeper.brought(), ([], []))

    def test_a_row_that_stood_there(self):
        keeper = keeper_of(PAIR, SOME + [LATE])
        keeper.come(LATE)
        self.assertEqual(keeper.brought(), ([], []))
        keeper = keeper_of(PAIR, SOME + [LATE])
        keeper.come(SOME[0])
        self.assertEqual(keeper.brought(), ([], []))

    def test_asked_late_as_well_as_behind_each_row(self):
        late, soon = Keeper(PAIR), Keeper(PAIR)
        for row in SOME + [LATE]:
            late.come(row)
            soon.come(row)
            soon.brought()
            told_by(soon)
        self.assertEqual(late.brought(), soon.brought())
        self.assertEqual(told_by(late), told_by(soon))

    def test_no_whole_telling_any_more(self):
        rows = asked((10, 20), (10, 20)) + [job(0, 12, 18, house="b")]
        keeper = keeper_of(PAIR, rows)
        keeper.come(all_row(0, 1, house="b"))
        self.assertEqual(keeper.brought(), ([], pairs_of((0, 0), (1, 0))))
        keeper.come(rows[0])
        self.assertEqual(keeper.brought(), ([], []))
        keeper = keeper_of(PAIR, rows)
        keeper.come(all_row(0, 1, house="b"))
        self.assertIs(keeper.is_whole(), False)
        keeper.come(all_row(0, 1, house="b"))
        self.assertEqual(keeper.brought(), ([], []))

    def test_a_row_behind_none(self):
        # The house c was not heard of: what it tells changes nothing where there was no whole telling.
        town = (("a", "b", "c"), ("a",))
        keeper = keeper_of(town, [ask(0, 0, 10, 20), all_row(1, 1), all_row(0, 0, house="b")])
        self.assertIs(keeper.is_whole(), False)
        keeper.come(job(0, 0, 1, house="c"))
        self.assertEqual(keeper.brought(), ([], []))
        self.assertIs(keeper.is_whole(), False)

    def test_what_was_sure_is_no_more_where_there_is_no_whole_telling(self):
        keeper = keeper_of(PAIR, asked((10, 20)) + done((12, 18))[:1])
        keeper.come(all_row(0, 1, house="b"))
        self.assertEqual(keeper.brought(), (pairs_of((0, 0)), []))
        keeper = keeper_of((("a", "b"), ()), asked((10, 20)) + [job(0, 12, 18, house="b")])
        self.assertEqual(told_by(keeper), (True, [], pairs_of((0, 0))))
        keeper.come(all_row(0, 1, house="b"))
        # The job of a came of nothing.
        self.assertIs(keeper.is_whole(), False)
        self.assertEqual(keeper.brought(), ([], pairs_of((0, 0))))


class Whatever(unittest.TestCase):
    def assert_kept(self, town, rows):
        """Row by row: the same as of the rows, what each brought; what must be stays so, what can't be stays so."""
        keeper = Keeper(town)
        before = (True, [], [])
        known = Reference(town, [])
        for count, row in enumerate(rows):
            keeper.come(row)
            part = rows[:count + 1]
            self.assertEqual(keeper.rows(), [row for at, row in enumerate(part) if row not in part[:at]])
            now = told_by(keeper)
            self.assertEqual(now, told_of(town, part))
            self.assertEqual(now[0], whole(town, part)[0] == "whole")
            self.assertEqual(keeper.brought(), (
                [pair for pair in now[1] if pair not in before[1]], [pair for pair in before[2] if pair not in now[2]]))
            if now[0]:
                self.assertTrue(before[0])
                self.assertTrue(set(before[1]) <= set(now[1]))
                self.assertTrue({pair for pair in now[2] if known.is_known(pair)} <= set(before[2]))
            before, known = now, Reference(town, part)
        return keeper

    def test_rows_of_small_books_one_by_one(self):
        for town, rows, _ in small_books(81, 200):
            self.assert_kept(town, rows)

    def test_what_can_be_told_only_gets_less_however_rows_come(self):
        chance = random.Random(82)
        ends = []
        for _ in range(250):
            town, rows = some_book(chance, chance.randint(5, 25), most_number=3)
            ends.append(self.assert_kept(town, rows).is_whole())
        for _ in range(60):
            town, rows, _ = some_true_book(chance)
            self.assertIs(self.assert_kept(town, rows).is_whole(), True)
        self.assertTrue(20 < sum(ends) < 230)

    def test_every_order_of_small_books(self):
        chance = random.Random(83)
        count = 0
        while count < 12:
            town, rows = some_tight_book(chance)
            if not 3 <= len(rows) <= 6:
                continue
            count += 1
            wanted = told_of(town, rows)
            for order in itertools.permutations(rows):
                keeper = keeper_of(town, order)
                self.assertEqual(told_by(keeper), wanted)
                self.assertEqual(keeper.rows(), list(order))

    def test_some_orders_of_larger_books_with_rows_twice(self):
        chance = random.Random(84)
        for _ in range(40):
            town, rows, _ = some_true_book(chance)
            wanted = told_of(town, rows)
            for _ in range(3):
                order = rows + chance.sample(rows, len(rows) // 2)
                chance.shuffle(order)
                keeper = keeper_of(town, order)
                self.assertEqual(told_by(keeper), wanted)
                self.assertEqual(sorted(keeper.rows()), sorted(rows))


class LongBooks(unittest.TestCase):
    def assert_soon(self, town, rows):
        start = time.monotonic()
        keeper = Keeper(town)
        for row in rows:
            keeper.come(row)
            told_by(keeper)
            keeper.brought()
        self.assertLess(time.monotonic() - start, LITTLE_TIME)
        self.assertEqual(told_by(keeper), told_of(town, rows))
        return keeper

    def test_200_rows(self):
        rows = ring_of_six(lambda k: 10, lambda k: 20, lambda k: 10 if k else 0, lambda k: 20 if k else 90)
        rows += rows[:200 - len(rows)]
        self.assertEqual(len(rows), 200)
        self.assertIs(self.assert_soon((SIX, SIX), rows).is_whole(), False)
        rows = [row for row in rows if row[0] != "all"]
        self.assertEqual(len(self.assert_soon((SIX, SIX), rows).may()), 6 * 15 * 14)

    def test_all_rows_first(self):
        # From the first six rows on there are ninety asks and jobs, at first all lost; at last each led to its own.
        rows = [all_row(15, 15, house=house) for house in SIX]
        for at, house in enumerate(SIX):
            rows += [job(k, 100 * k, 100 * k + 10, house=house) for k in range(15)]
        for at, house in enumerate(SIX):
            rows += [ask(k, 0, 100 * k, 100 * k + 10, house=house, asked=SIX[(at + 1) % 6]) for k in range(1, 15)]
        rows = [row for row in rows if row[0] != "job" or row[2] != 0]
        self.assertGreater(len(rows), 170)
        keeper = self.assert_soon((SIX, ()), rows)
        self.assertIs(keeper.is_whole(), True)
        self.assertEqual(len(keeper.must()), 6 * 14)

    def test_rows_of_any_kind(self):
        chance = random.Random(85)
        for _ in range(4):
            town, rows = some_book(chance, 400, most_houses=6, most_number=14, most_time=10 ** 6)
            self.assert_soon(town, rows)


if __name__ == "__main__":
    unittest.main()

"""Points 2, 3 and 14: all tellings, counted and listed, and whether a list of pairs is one."""

import itertools
import random
import time
import unittest

from gapcalls.errors import Short, TooMany
from gapcalls.tellings import how_many, is_telling, tellings
from reference import Reference, small_books, some_true_book
from samples import (
    CHOICES, FEW_ASKS_EARLY, LITTLE_TIME, PAIR, SIX, TOWN, all_row, ask, asked, choices, done, job, pairs_of,
    ring_of_six)

BOTH = (("a", "b"), ("a", "b"))
THREE = asked((10, 20), (10, 20), (10, 20)) + done((12, 18), (12, 18), (12, 18))
SHORT = asked((10, 20), (10, 20)) + done((12, 18))


def chains_of_asks(early):
    """Three houses ask three others, fifteen times: ask k may have led to jobs k and k + 1, the last one to the last.

    So each led to its own; but an early one may have led to the job ahead, too, and been exchanged with the ask ahead.
    """
    rows = []
    for house, other in zip("abc", "def"):
        rows += [job(0, -1, 999, house=house), all_row(15, 1, house=house), all_row(0, 15, house=other)]
        rows += [job(k, 10 * k + 1, 10 * k + 8, house=other) for k in range(15)]
        for k in range(15):
            out = 10 * k - 9 if (house, k) in early else 10 * k
            rows.append(ask(k, 0, out, 10 * k + (18 if k < 14 else 8), house=house, asked=other))
    return rows


class All(unittest.TestCase):
    def assert_all(self, town, rows, wanted):
        told = tellings(town, rows)
        self.assertEqual(told, wanted)
        self.assertEqual({type(part) for part in [told] + told}, {list})
        many = how_many(town, rows)
        self.assertEqual((many, type(many)), (len(wanted), int))
        for telling in wanted:
            self.assertIs(is_telling(town, rows, telling), True)

    def test_none_known(self):
        for town in (PAIR, TOWN, (SIX, ())):
            self.assert_all(town, [], [[]])
        self.assert_all(BOTH, [all_row(3, 3), all_row(3, 3, house="b")], [[]])

    def test_one(self):
        self.assert_all(PAIR, asked((10, 20)) + done((12, 18)), [pairs_of((0, 0))])
        self.assert_all(PAIR, asked((10, 20)) + [all_row(0, 1, house="b")], [[]])
        self.assert_all(PAIR, FEW_ASKS_EARLY, [pairs_of((0, 0), (1, 1))])

    def test_several_sorted(self):
        self.assert_all(PAIR, THREE, [pairs_of(*enumerate(order)) for order in itertools.permutations(range(3))])

    def test_with_fewer_pairs_ahead(self):
        rows = asked((10, 20)) + [job(0, 12, 18, house="b")]
        self.assert_all(PAIR, rows, [[], pairs_of((0, 0))])
        rows = asked((10, 20), (10, 20)) + [job(0, 12, 18, house="b")]
        self.assert_all(PAIR, rows, [[], pairs_of((0, 0)), pairs_of((1, 0))])

    def test_many_whole_tellings_of_one_telling(self):
        # Whatever the lost asks of c led to, it is the same of the known ones.
        town = (("a", "b", "c"), ("a",))
        rows = asked((10, 20)) + [job(0, 12, 18, house="b"), all_row(0, 3, house="b"), all_row(2, 0, house="c")]
        self.assertEqual(len(Reference(town, rows).whole_tellings()), 6)
        self.assert_all(town, rows, [[], pairs_of((0, 0))])

    def test_choices(self):
        self.assert_all(CHOICES, choices(2, 3), [
            [(("a", 0), ("b", one)), (("a", 1), ("c", other))] for one in range(2) for other in range(3)])

    def test_rows_several_times_and_in_any_order(self):
        for rows in (THREE[::-1], THREE * 2):
            self.assertEqual(tellings(PAIR, rows), tellings(PAIR, THREE))

    def test_told_lists_are_the_askers_own(self):
        first = tellings(PAIR, THREE)
        kept = [list(telling) for telling in first]
        first[0].clear()
        first[1].append("more")
        first.pop()
        self.assertEqual(tellings(PAIR, THREE), kept)
        self.assertEqual(len({id(telling) for telling in kept}), 6)

    def test_what_is_handed_in_stays_as_it_was(self):
        rows, pairs = list(THREE), pairs_of((0, 1), (1, 0), (2, 2))
        tellings(PAIR, rows)
        how_many(PAIR, rows)
        is_telling(PAIR, rows, pairs)
        self.assertEqual((rows, pairs), (THREE, pairs_of((0, 1), (1, 0), (2, 2))))


class Limits(unittest.TestCase):
    def assert_limit(self, rows, count):
        """That a limit of just so many is not too few, and one less is."""
        self.assertEqual(how_many(CHOICES, rows, count), count)
        self.assertEqual(how_many(CHOICES, rows, limit=count), count)
        self.assertEqual(len(tellings(CHOICES, rows, count)), count)
        told = tellings(CHOICES, rows, limit=count)
        self.assertEqual(told, sorted(told))
        for at in range(count - 1):
            self.assertLess(told[at], told[at + 1])
        if count > 1:
            self.assert_too_many(rows, count - 1)

    def assert_too_many(self, rows, limit, town=CHOICES):
        for tell in (how_many, tellings):
            for call in (lambda: tell(town, rows, limit), lambda: tell(town, rows, limit=limit)):
                with self.assertRaises(TooMany) as caught:
                    call()
                self.assertIs(type(caught.exception), TooMany)

    def test_just_reached_and_gone_beyond_by_one(self):
        for counts in ((1,), (2,), (3, 1), (2, 3), (7, 5), (10, 10, 2), (15, 15)):
            count = 1
            for more in counts:
                count *= more
            self.assert_limit(choices(*counts), count)

    def test_limits_of_1_and_of_1000(self):
        self.assert_limit(choices(1), 1)
        self.assert_too_many(choices(2), 1)
        self.assert_limit(choices(10, 10, 10), 1000)
        self.assert_too_many(choices(7, 11, 13), 1000)
        self.assertEqual(how_many(CHOICES, choices(7, 11, 13), 1001), 1001)

    def test_200_where_it_is_left_out(self):
        rows = choices(10, 10, 2)
        self.assertEqual((how_many(CHOICES, rows), len(tellings(CHOICES, rows))), (200, 200))
        for tell in (how_many, tellings):
            with self.assertRaises(TooMany):
                tell(CHOICES, choices(15, 14))

    def test_201_are_too_many_where_it_is_left_out(self):
        # a.0 led to one of 4 + 3 jobs of b, a.1 to one of 3 + 7, the same three: in 67 ways; a.2 to one of 3 jobs of c.
        rows = [job(0, 0, 90), ask(0, 0, 10, 40), ask(1, 0, 25, 60), ask(2, 0, 26, 60, asked="c"), all_row(3, 1)]
        begins = [12] * 4 + [30] * 3 + [50] * 7
        rows += [job(number, begin, begin + 1, house="b") for number, begin in enumerate(begins)]
        rows += [job(number, 30, 31, house="c") for number in range(3)]
        rows += [all_row(0, count, house=house) for house, count in zip(SIX[1:], (14, 3, 0, 0, 0))]
        self.assertEqual(how_many(CHOICES, rows, 201), 201)
        for tell in (how_many, tellings):
            with self.assertRaises(TooMany):
                tell(CHOICES, rows)

    def test_short_and_nothing_else_of_a_book_without_one(self):
        for limit in (1, 1000):
            for tell in (how_many, tellings):
                with self.assertRaises(Short) as caught:
                    tell(PAIR, SHORT, limit)
                self.assertTrue(Reference(PAIR, SHORT).is_short(caught.exception.side, caught.exception.some))
        for pairs in ([], pairs_of((0, 0)), pairs_of((9, 9))):
            with self.assertRaises(Short):
                is_telling(PAIR, SHORT, pairs)

    def test_far_more_than_the_limit(self):
        ring = [row for row in ring_of_six(
            lambda k: 10, lambda k: 20, lambda k: 10 if k else 0, lambda k: 20 if k else 90) if row[0] != "all"]
        lost = [all_row(15, 15, house=house) for house in SIX]
        lost += [ask(k, 0, 100, 200) for k in range(7)] + [job(k, 100, 150, house="b") for k in range(15)]
        for rows in (ring, lost, choices(15, 15, 15, 15, 15)):
            for limit in (1, 10, 200, 1000):
                start = time.monotonic()
                with self.assertRaises(TooMany):
                    how_many(CHOICES, rows, limit)
                self.assertLess(time.monotonic() - start, LITTLE_TIME)

    def test_few_of_a_long_book(self):
        town = (SIX, ("a", "b", "c"))
        for early, count in (((), 1), ((("a", 6),), 2), ((("a", 6), ("b", 10)), 4), ((("c", 14), ("b", 1)), 4)):
            start = time.monotonic()
            self.assertEqual(how_many(town, chains_of_asks(early), count), count)
            self.assertLess(time.monotonic() - start, LITTLE_TIME)


class IsTelling(unittest.TestCase):
    RIGHT = pairs_of((0, 1), (1, 0), (2, 2))

    def assert_telling(self, town, rows, pairs, wanted):
        self.assertIs(is_telling(town, rows, pairs), wanted, (town, rows, pairs))

    def test_a_pair_too_few(self):
        self.assert_telling(PAIR, THREE, self.RIGHT, True)
        for at in range(3):
            self.assert_telling(PAIR, THREE, self.RIGHT[:at] + self.RIGHT[at + 1:], False)
        self.assert_telling(PAIR, THREE, [], False)

    def test_a_pair_too_many(self):
        for pair in pairs_of((0, 0), (1, 2), (2, 1), (3, 2), (2, 3)):
            self.assert_telling(PAIR, THREE, sorted(self.RIGHT + [pair]), False)

    def test_an_ask_or_a_job_twice_where_none_must_stand(self):
        rows = [ask(0, 0, 10, 20), ask(1, 0, 10, 20), job(0, 12, 18, house="b"), job(1, 12, 18, house="b")]
        self.assert_telling(BOTH, rows, pairs_of((0, 0), (1, 1)), True)
        self.assert_telling(BOTH, rows, pairs_of((0, 0)), True)
        self.assert_telling(BOTH, rows, pairs_of((0, 0), (0, 1)), False)
        self.assert_telling(BOTH, rows, pairs_of((0, 0), (1, 0)), False)

    def test_a_pair_twice(self):
        for pair in self.RIGHT:
            self.assert_telling(PAIR, THREE, sorted(self.RIGHT + [pair]), False)

    def test_not_rising(self):
        for order in itertools.permutations(self.RIGHT):
            self.assert_telling(PAIR, THREE, list(order), list(order) == self.RIGHT)

    def test_a_lost_ask_or_job(self):
        rows = asked((10, 20)) + [job(1, 12, 18, house="b"), all_row(0, 2, house="b")]
        self.assert_telling(BOTH, rows, pairs_of((0, 1)), True)
        self.assert_telling(BOTH, rows, [], True)
        self.assert_telling(BOTH, rows, pairs_of((0, 0)), False)
        rows = [all_row(1, 1), job(0, 0, 90), job(0, 12, 18, house="b"), all_row(0, 1, house="b")]
        self.assert_telling(BOTH, rows, [], True)
        self.assert_telling(BOTH, rows, pairs_of((0, 0)), False)

    def test_what_there_was_not(self):
        for wrong in (pairs_of((0, 3)), pairs_of((3, 0)), pairs_of((-1, 0)), pairs_of((0, 10 ** 5000)),
                      [(("b", 0), ("b", 0))], [(("a", 0), ("a", 0))], [(("z", 0), ("b", 0))], [(("a", 0), ("", 0))]):
            self.assert_telling(PAIR, THREE, wrong, False)
            self.assert_telling(PAIR, THREE, sorted(self.RIGHT[1:] + wrong), False)
            self.assert_telling(PAIR, [], wrong, False)

    def test_barred_by_itself(self):
        rows = asked((10, 20), (10, 30)) + done((12, 18), (15, 25))
        self.assert_telling(PAIR, rows, pairs_of((0, 0), (1, 1)), True)
        self.assert_telling(PAIR, rows, pairs_of((0, 1), (1, 0)), False)

    def test_barred_by_the_others(self):
        # b.2 would have to come of the one lost ask, b.1 too.
        rows = [ask(0, 0, 10, 20), job(0, -100, 1000), all_row(2, 1)] + done((12, 18), (13, 18), (14, 18))
        with self.assertRaises(Short):
            is_telling(PAIR, rows, pairs_of((0, 0)))
        rows = [ask(0, 0, 10, 20), job(0, -100, 1000), all_row(2, 1)] + done((12, 18), (13, 18))
        self.assert_telling(PAIR, rows, pairs_of((0, 0)), True)
        self.assert_telling(PAIR, rows, pairs_of((0, 1)), True)
        self.assert_telling(PAIR, rows, [], False)

    def test_asks_and_jobs_turned(self):
        self.assert_telling(PAIR, THREE, [(other, one) for one, other in self.RIGHT], False)

    def test_more_than_any_limit(self):
        rows = choices(15, 15, 15, 15, 15)
        pairs = [(("a", number), (house, 7)) for number, house in enumerate(SIX[1:])]
        self.assert_telling(CHOICES, rows, pairs, True)
        self.assert_telling(CHOICES, rows, pairs[1:], False)


class AgainstReference(unittest.TestCase):
    def test_all_of_small_books(self):
        counts = []
        for town, rows, reference in small_books(41, 800, most_tellings=1000):
            wanted = reference.tellings()
            counts.append(len(wanted))
            self.assertEqual(tellings(town, rows, 1000), wanted, (town, rows))
            self.assertEqual(how_many(town, rows, len(wanted)), len(wanted))
            if len(wanted) > 1:
                with self.assertRaises(TooMany):
                    how_many(town, rows, len(wanted) - 1)
        self.assertGreater(len([count for count in counts if count > 2]), 30)

    def test_is_telling_of_each_list_of_known_pairs(self):
        for town, rows, reference in small_books(42, 80, most_tellings=1000):
            wanted = reference.tellings()
            chances = [(one, other) for one in reference.asks for other in reference.jobs]
            for count in range(4):
                for pairs in itertools.islice(itertools.combinations(chances, count), 100):
                    self.assertIs(is_telling(town, rows, list(pairs)), list(pairs) in wanted)

    def test_what_really_was_is_a_telling(self):
        chance = random.Random(43)
        for _ in range(100):
            town, rows, pairs = some_true_book(chance)
            known = [pair for pair in pairs if Reference(town, rows).is_known(pair)]
            self.assertIs(is_telling(town, rows, known), True)
            try:
                self.assertIn(known, tellings(town, rows))
            except TooMany:
                pass


if __name__ == "__main__":
    unittest.main()

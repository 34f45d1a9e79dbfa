"""Points 2, 3 and 13: what must be, may be, or can't be, each shown."""

import itertools
import random
import time
import unittest

from gapcalls.errors import NoAsk, NoJob, Short
from gapcalls.standing import is_standing, may, must, standing
from reference import Reference, small_books, some_book, some_true_book
from samples import (
    FEW_ASKS_EARLY, LITTLE_TIME, PAIR, SIX, TOWN, all_row, ask, asked, asks, done, job, jobs, pairs_of, ring_of_six)

BOTH = (("a", "b"), ("a", "b"))

# a.0 led to b.0 or b.1, a.1 likewise; a.2 led to b.2, and can't have led to b.1.
SOME = asked((10, 20), (10, 20), (10, 40)) + done((12, 18), (12, 18), (30, 40))
# b.0 came of a.0 or a.1, b.1 of a.1 alone; so each must be.
CHAIN = asked((10, 20), (10, 40)) + done((12, 18), (30, 40))
SHORT = asked((10, 20), (10, 20)) + done((12, 18))


class Judging(unittest.TestCase):
    def assert_told(self, town, rows, one, other):
        """That what is told of the pair is right by the words of the document; and tells it."""
        told = standing(town, rows, one, other)
        reference = Reference(town, rows)
        self.assertIs(type(told), tuple)
        self.assertEqual(len(told), 3)
        self.assertTrue(reference.is_standing(one, other, told), (town, rows, one, other, told))
        if told[0] == "may":
            self.assertEqual([type(part) for part in told], [str, list, list])
        elif told != ("never", None, None):
            self.assertEqual([type(part) for part in told], [str, str, list])
        if told[0] == "never":
            self.assertEqual(told[1:] == (None, None), not reference.may_lead(one, other))
        self.assert_right(town, rows, one, other, told, True)
        return told

    def assert_right(self, town, rows, one, other, told, wanted):
        self.assertIs(is_standing(town, rows, one, other, told), wanted, (town, rows, one, other, told))


class Words(Judging):
    def told(self, town, rows, numbers):
        return self.assert_told(town, rows, *pairs_of(numbers)[0])

    def test_must_shown_by_asks(self):
        self.assertEqual(self.told(BOTH, asked((10, 20)) + done((12, 18)), (0, 0)), ("must", "asks", asks(0)))

    def test_must_shown_by_several_asks(self):
        told = self.told(BOTH, asked((10, 40), (10, 20)) + done((12, 18), (30, 40)), (0, 1))
        self.assertEqual(told, ("must", "asks", asks(0, 1)))

    def test_must_shown_by_jobs(self):
        self.assertEqual(self.told(PAIR, FEW_ASKS_EARLY, (0, 0)), ("must", "jobs", jobs(0)))
        self.assertEqual(self.told(PAIR, FEW_ASKS_EARLY, (1, 1)), ("must", "jobs", jobs(0, 1)))

    def test_must_shown_by_either_side(self):
        self.assertEqual(self.told(PAIR, CHAIN, (0, 0))[0], "must")
        for side, some in (("asks", asks(0)), ("jobs", jobs(0, 1))):
            self.assert_right(PAIR, CHAIN, ("a", 0), ("b", 0), ("must", side, some), True)
        for side, some in (("asks", asks(0, 1)), ("jobs", jobs(1))):
            self.assert_right(PAIR, CHAIN, ("a", 1), ("b", 1), ("must", side, some), True)

    def test_may(self):
        for numbers in itertools.product((0, 1), (0, 1)):
            self.assertEqual(self.told(PAIR, SOME, numbers)[0], "may")
        with_it, without_it = self.told(PAIR, SOME, (0, 1))[1:]
        self.assertEqual(with_it, pairs_of((0, 1), (1, 0), (2, 2)))
        self.assertEqual(without_it, pairs_of((0, 0), (1, 1), (2, 2)))

    def test_may_have_led_to_more_jobs(self):
        rows = asked((10, 20)) + [job(0, 12, 18, house="b")]
        self.assertEqual(self.told(PAIR, rows, (0, 0)), ("may", pairs_of((0, 0)), []))

    def test_may_have_led_to_a_lost_job(self):
        rows = asked((10, 20)) + [job(1, 12, 18, house="b"), all_row(0, 2, house="b")]
        self.assertEqual(self.told(BOTH, rows, (0, 1)), ("may", pairs_of((0, 1)), pairs_of((0, 0))))

    def test_may_in_tellings_with_lost_ones(self):
        rows = [all_row(2, 0), ask(0, 0, 10, 20, house="c"), job(0, 12, 18, house="b"), all_row(0, 2, house="b"),
                job(0, 0, 90, house="c"), all_row(1, 1, house="c")]
        town = (("a", "b", "c"), ("b",))
        told = self.assert_told(town, rows, ("c", 0), ("b", 0))
        self.assertEqual(told[0], "may")

    def test_never_by_itself(self):
        self.assertEqual(self.told(PAIR, SOME, (0, 2)), ("never", None, None))
        self.assertEqual(self.told(PAIR, SOME, (1, 2)), ("never", None, None))

    def test_never_of_another_house(self):
        self.assertEqual(self.assert_told(PAIR, SOME, ("a", 0), ("a", 0)), ("never", None, None))

    def test_never_shown_by_asks(self):
        self.assertEqual(self.told(BOTH, CHAIN, (1, 0)), ("never", "asks", asks(0)))
        told = self.told(BOTH, asked((10, 20), (10, 20), (10, 40)) + done((12, 18), (12, 18), (30, 40)), (2, 0))
        self.assertEqual(told, ("never", "asks", asks(0, 1)))

    def test_never_shown_by_jobs(self):
        self.assertEqual(self.told(PAIR, FEW_ASKS_EARLY, (0, 1)), ("never", "jobs", jobs(0)))

    def test_never_shown_by_either_side(self):
        self.assertEqual(self.told(PAIR, CHAIN, (1, 0))[0], "never")
        for side, some in (("asks", asks(0)), ("jobs", jobs(1))):
            self.assert_right(PAIR, CHAIN, ("a", 1), ("b", 0), ("never", side, some), True)

    def test_by_itself_it_can_be_so_none_twice_is_wrong(self):
        for numbers in ((0, 0), (1, 0), (1, 1)):
            self.assert_right(PAIR, CHAIN, *pairs_of(numbers)[0], ("never", None, None), False)

    def test_never_shown_by_others_where_by_itself_it_cannot_be(self):
        one, other = pairs_of((0, 2))[0]
        self.assertEqual(standing(PAIR, SOME, one, other), ("never", None, None))
        for side, some in (("asks", asks(2)), ("asks", asks(1, 2)), ("jobs", jobs(0, 1)), ("asks", asks(0, 2)),
                           ("asks", []), ("jobs", jobs(0, 1, 2)), ("jobs", jobs(0)), ("asks", asks(1))):
            self.assert_right(PAIR, SOME, one, other, ("never", side, some),
                              Reference(PAIR, SOME).is_short(side, some, put=(one, other)))
        # With a.0 and b.1 left out a.1 has none.
        rows = asked((10, 20), (30, 40)) + done((12, 18), (32, 38))
        self.assertEqual(standing(PAIR, rows, ("a", 0), ("b", 1)), ("never", None, None))
        for told in (("never", None, None), ("never", "asks", asks(1)), ("never", "jobs", jobs(0))):
            self.assert_right(PAIR, rows, ("a", 0), ("b", 1), told, True)
        for told in (("never", "asks", asks(0)), ("never", "jobs", jobs(1)), ("never", "asks", asks(0, 1)),
                     ("never", "asks", []), ("never", "jobs", asks(1)), ("must", "asks", asks(1))):
            self.assert_right(PAIR, rows, ("a", 0), ("b", 1), told, False)


class IsStanding(Judging):
    """Told tuples, and the same with one thing wrong."""

    ONE, OTHER = ("a", 0), ("b", 0)

    def wrong(self, rows, *told, town=PAIR, pair=None):
        one, other = pair or (self.ONE, self.OTHER)
        self.assert_right(town, rows, one, other, told, False)

    def right(self, rows, *told, town=PAIR, pair=None):
        one, other = pair or (self.ONE, self.OTHER)
        self.assert_right(town, rows, one, other, told, True)

    def test_the_tuple_of_another_pair(self):
        pairs = [(one, other) for one in asks(0, 1, 2) for other in jobs(0, 1, 2)]
        reference = Reference(PAIR, SOME)
        for pair, another in itertools.product(pairs, pairs):
            told = standing(PAIR, SOME, *another)
            self.assert_right(PAIR, SOME, *pair, told, reference.is_standing(*pair, told))
        self.right(CHAIN, *standing(PAIR, CHAIN, *pairs_of((0, 0))[0]))
        self.wrong(CHAIN, *standing(PAIR, CHAIN, *pairs_of((0, 0))[0]), pair=pairs_of((1, 1))[0])

    def test_another_word(self):
        for rows, pair in ((CHAIN, (0, 0)), (CHAIN, (1, 0)), (CHAIN, (0, 1)), (SOME, (0, 0)), (SOME, (0, 2))):
            pair = pairs_of(pair)[0]
            told = standing(PAIR, rows, *pair)
            for word in ("must", "may", "never", "", "always", "Must", "must ", "asks"):
                self.assert_right(PAIR, rows, *pair, (word,) + told[1:], word == told[0])

    def test_another_side(self):
        self.right(CHAIN, "must", "asks", asks(0))
        for side in ("jobs", "", "ask", "Asks", "asks ", None, [], asks(0)):
            self.wrong(CHAIN, "must", side, asks(0))
        self.right(CHAIN, "must", "jobs", jobs(0, 1))
        self.wrong(CHAIN, "must", "asks", jobs(0, 1))
        self.right(CHAIN, "never", "asks", asks(0), pair=pairs_of((1, 0))[0])
        self.right(CHAIN, "never", "jobs", jobs(1), pair=pairs_of((1, 0))[0])
        for side, some in (("jobs", asks(0)), ("asks", jobs(1)), (None, asks(0)), ("", asks(0)), ([], asks(0))):
            self.wrong(CHAIN, "never", side, some, pair=pairs_of((1, 0))[0])

    def test_one_too_few(self):
        self.wrong(CHAIN, "must", "asks", [])
        self.wrong(CHAIN, "must", "jobs", jobs(0))
        self.wrong(CHAIN, "must", "jobs", jobs(1))
        self.wrong(CHAIN, "must", "asks", asks(0), pair=pairs_of((1, 1))[0])
        self.wrong(CHAIN, "never", "asks", [], pair=pairs_of((1, 0))[0])
        self.right(SOME, "never", "asks", asks(0, 1), pair=pairs_of((2, 0))[0])
        self.wrong(SOME, "never", "asks", asks(0), pair=pairs_of((2, 0))[0])
        self.wrong(SOME, "never", "asks", asks(1), pair=pairs_of((2, 0))[0])

    def test_one_more(self):
        # Were a.0 barred from b.0, a.0 has none; a.1 has two of its own, so with it they are not short.
        self.wrong(CHAIN, "must", "asks", asks(0, 1))
        self.right(CHAIN, "must", "asks", asks(0, 1), pair=pairs_of((1, 1))[0])
        # The pair's own ask is none of the others.
        self.wrong(CHAIN, "never", "asks", asks(0, 1), pair=pairs_of((1, 0))[0])
        self.wrong(CHAIN, "never", "jobs", jobs(0, 1), pair=pairs_of((1, 0))[0])

    def test_one_twice_and_not_rising(self):
        self.wrong(CHAIN, "must", "asks", asks(0, 0))
        self.wrong(CHAIN, "must", "jobs", jobs(1, 0))
        self.wrong(CHAIN, "must", "jobs", jobs(0, 0, 1))
        self.wrong(SOME, "never", "asks", asks(1, 0), pair=pairs_of((2, 0))[0])
        self.wrong(SOME, "never", "asks", asks(0, 1, 1), pair=pairs_of((2, 0))[0])

    def test_things_that_there_were_not(self):
        for wrong in (("a", 2), ("a", -1), ("a", 10 ** 5000), ("z", 0), ("", 0)):
            self.wrong(CHAIN, "must", "asks", sorted(asks(0) + [wrong]))
            self.wrong(CHAIN, "must", "asks", [wrong])
            self.wrong(CHAIN, "never", "asks", sorted(asks(0) + [wrong]), pair=pairs_of((1, 0))[0])
            self.wrong(CHAIN, "never", "asks", [wrong], pair=pairs_of((1, 0))[0])
            self.wrong(CHAIN, "must", "jobs", sorted(jobs(0, 1) + [wrong]))
        self.wrong(CHAIN, "must", "asks", pairs_of((0, 0)))
        self.wrong(CHAIN, "never", "asks", pairs_of((0, 0)), pair=pairs_of((1, 0))[0])

    def test_may_with_two_whole_tellings(self):
        one, two = pairs_of((0, 0), (1, 1), (2, 2)), pairs_of((0, 1), (1, 0), (2, 2))
        self.right(SOME, "may", one, two)
        self.wrong(SOME, "may", two, one)
        self.wrong(SOME, "may", one, one)
        self.wrong(SOME, "may", two, two)
        self.right(SOME, "may", two, one, pair=pairs_of((0, 1))[0])

    def test_may_with_something_wrong_in_a_telling(self):
        one, two = pairs_of((0, 0), (1, 1), (2, 2)), pairs_of((0, 1), (1, 0), (2, 2))
        for wrong in (None, "", "asks", [], asks(0), jobs(0, 1), one[:2], one + one[2:], one[::-1], [one[0], one[2]],
                      sorted(one + pairs_of((3, 3))), pairs_of((0, 0), (1, 2), (2, 1)), asks(0, 0)):
            self.wrong(SOME, "may", wrong, two)
        for wrong in (None, "", "asks", [], asks(0), jobs(0, 1), two[:2], two + two[2:], two[::-1], [two[0], two[2]],
                      sorted(two + pairs_of((3, 3))), pairs_of((0, 1), (1, 2), (2, 0)), asks(0, 0)):
            self.wrong(SOME, "may", one, wrong)

    def test_none_in_a_place(self):
        for told in (("must", None, None), ("must", "asks", None), ("must", None, asks(0)), ("may", None, None),
                     ("may", pairs_of((0, 0), (1, 1)), None), ("never", None, None), ("never", "asks", None),
                     ("never", None, asks(0))):
            self.wrong(CHAIN, *told)
        for told in (("never", "asks", None), ("never", None, asks(0)), ("never", None, []), ("never", "jobs", None),
                     ("never", "", None), ("never", None, ""), ("never", [], []), ("must", None, None)):
            self.wrong(CHAIN, *told, pair=pairs_of((0, 1))[0])
        self.right(CHAIN, "never", None, None, pair=pairs_of((0, 1))[0])

    def test_texts_in_both_places(self):
        for word in ("must", "may", "never"):
            for one, other in (("asks", "asks"), ("", ""), ("jobs", "a"), ("asks", "")):
                self.wrong(CHAIN, word, one, other)
                self.wrong(SOME, word, one, other)

    def test_a_job_that_need_not_stand_shows_nothing(self):
        self.right(CHAIN, "must", "asks", asks(0), town=BOTH)
        self.wrong(CHAIN, "must", "jobs", jobs(0, 1), town=BOTH)
        self.wrong(CHAIN, "never", "jobs", jobs(1), town=BOTH, pair=pairs_of((1, 0))[0])

    def test_an_ask_that_need_not_stand_shows_nothing(self):
        self.right(FEW_ASKS_EARLY, "must", "jobs", jobs(0))
        self.wrong(FEW_ASKS_EARLY, "must", "asks", asks(0))
        self.wrong(FEW_ASKS_EARLY, "never", "asks", asks(0), pair=pairs_of((0, 1))[0])


class Lists(unittest.TestCase):
    def test_none_known(self):
        for town in (PAIR, TOWN, (SIX, ())):
            self.assertEqual((must(town, []), may(town, [])), ([], []))

    def test_must_and_may(self):
        self.assertEqual(must(PAIR, SOME), pairs_of((2, 2)))
        self.assertEqual(may(PAIR, SOME), pairs_of((0, 0), (0, 1), (1, 0), (1, 1), (2, 2)))
        self.assertEqual(must(PAIR, CHAIN), pairs_of((0, 0), (1, 1)))
        self.assertEqual(may(PAIR, CHAIN), pairs_of((0, 0), (1, 1)))

    def test_lost_ones_stand_in_neither(self):
        rows = [all_row(1, 1), all_row(1, 1, house="b")]
        self.assertEqual((must(BOTH, rows), may(BOTH, rows)), ([], []))
        rows = asked((10, 20)) + [all_row(0, 1, house="b")]
        self.assertEqual((must(PAIR, rows), may(PAIR, rows)), ([], []))

    def test_jobs_that_must_have_come_of_an_ask(self):
        self.assertEqual(must(PAIR, FEW_ASKS_EARLY), pairs_of((0, 0), (1, 1)))
        self.assertEqual(may(PAIR, FEW_ASKS_EARLY), pairs_of((0, 0), (1, 1)))

    def test_a_way_from_what_has_no_mate_to_what_need_not_have_one(self):
        # a.0 may have led to b.0 or to more jobs; b.0 come of it, or of more asks.
        rows = asked((10, 20), (10, 20)) + [job(0, 12, 18, house="b")]
        self.assertEqual((must(PAIR, rows), may(PAIR, rows)), ([], pairs_of((0, 0), (1, 0))))
        # Of two jobs of a gate one came of the ask.
        rows = asked((10, 20)) + done((12, 18), (12, 18))
        self.assertEqual((must(BOTH, rows), may(BOTH, rows)), ([], pairs_of((0, 0), (0, 1))))

    def test_a_way_to_an_ask_that_need_not_have_the_job_that_it_has(self):
        # b.0 must have come of one of two asks, neither of which must have led to it.
        rows = asked((10, 100), (12, 100)) + [job(0, 12, 90, house="b"), ask(0, 0, 30, 40, house="b", asked="b")]
        self.assertEqual((must(PAIR, rows), may(PAIR, rows)), ([], pairs_of((0, 0), (1, 0))))

    def test_rows_several_times_and_in_any_order(self):
        for rows in (SOME[::-1], SOME * 3, SOME + SOME[::-1]):
            self.assertEqual((must(PAIR, rows), may(PAIR, rows)), (must(PAIR, SOME), may(PAIR, SOME)))

    def test_told_lists_are_the_askers_own(self):
        for tell in (must, may):
            first = tell(PAIR, SOME)
            kept = list(first)
            first.append("more")
            self.assertEqual(tell(PAIR, SOME), kept)
            self.assertIs(type(kept), list)
        told = standing(PAIR, SOME, ("a", 0), ("b", 0))
        kept = [list(told[1]), list(told[2])]
        told[1].clear()
        told[2].append("more")
        again = standing(PAIR, SOME, ("a", 0), ("b", 0))
        self.assertEqual([again[1], again[2]], kept)
        told = standing(PAIR, CHAIN, ("a", 0), ("b", 0))
        told[2].clear()
        self.assertEqual(standing(PAIR, CHAIN, ("a", 0), ("b", 0)), ("must", "asks", asks(0)))

    def test_what_is_handed_in_stays_as_it_was(self):
        rows = list(SOME)
        told = ("may", pairs_of((0, 0), (1, 1), (2, 2)), pairs_of((0, 1), (1, 0), (2, 2)))
        is_standing(PAIR, rows, ("a", 0), ("b", 0), told)
        standing(PAIR, rows, ("a", 0), ("b", 0))
        must(PAIR, rows)
        may(PAIR, rows)
        self.assertEqual(rows, SOME)
        self.assertEqual(told, ("may", pairs_of((0, 0), (1, 1), (2, 2)), pairs_of((0, 1), (1, 0), (2, 2))))


class Refusals(unittest.TestCase):
    def assert_refused(self, error, rows, one, other):
        told = ("never", None, None)
        for tell, more in ((standing, ()), (is_standing, (told,)), (is_standing, (("", "", ""),))):
            with self.subTest(tell=tell.__name__, one=one, other=other):
                with self.assertRaises(error) as caught:
                    tell(PAIR, rows, one, other, *more)
                self.assertIs(type(caught.exception), error)

    def test_no_ask(self):
        for one in (("a", 2), ("a", -1), ("a", 10 ** 5000), ("b", 0), ("z", 0), ("", 0), ("a", 14)):
            self.assert_refused(NoAsk, CHAIN, one, ("b", 0))

    def test_no_job(self):
        for other in (("b", 2), ("b", -1), ("b", 10 ** 5000), ("a", 1), ("z", 0), ("", 0), ("b", 14)):
            self.assert_refused(NoJob, CHAIN, ("a", 0), other)

    def test_lost_ones(self):
        rows = [ask(1, 1, 10, 20), job(1, 12, 18, house="b")]
        self.assert_refused(NoAsk, rows, ("a", 0), ("b", 1))
        self.assert_refused(NoJob, rows, ("a", 1), ("b", 0))
        self.assert_refused(NoJob, rows, ("a", 1), ("a", 1))
        self.assertEqual(standing(PAIR, rows, ("a", 1), ("b", 1))[0], "may")

    def test_no_ask_ahead_of_no_job_ahead_of_short(self):
        self.assert_refused(NoAsk, CHAIN, ("a", 2), ("b", 2))
        self.assert_refused(NoAsk, SHORT, ("a", 2), ("b", 2))
        self.assert_refused(NoAsk, SHORT, ("a", 2), ("b", 0))
        self.assert_refused(NoJob, SHORT, ("a", 0), ("b", 2))
        self.assert_refused(Short, SHORT, ("a", 0), ("b", 0))

    def test_short_tells_what_is_short(self):
        for rows in (SHORT, asked((10, 20)) + done((12, 18), (12, 18))):
            reference = Reference(PAIR, rows)
            for tell, more in ((standing, (("a", 0), ("b", 0))), (must, ()), (may, ()),
                               (is_standing, (("a", 0), ("b", 0), ("never", None, None)))):
                with self.assertRaises(Short) as caught:
                    tell(PAIR, rows, *more)
                self.assertTrue(reference.is_short(caught.exception.side, caught.exception.some))

    def test_the_list_of_short_is_the_askers_own(self):
        for _ in range(2):
            with self.assertRaises(Short) as caught:
                must(PAIR, SHORT)
            self.assertEqual(caught.exception.some, asks(0, 1))
            caught.exception.some.clear()


class AgainstReference(Judging):
    def test_standing_of_each_pair(self):
        words = []
        for town, rows, reference in small_books(31, 400):
            tellings = reference.tellings()
            if not tellings:
                with self.assertRaises(Short):
                    must(town, rows)
                continue
            for pair in reference.known_chances():
                told = self.assert_told(town, rows, *pair)
                words.append(told[:2] if isinstance(told[1], (str, type(None))) else told[0])
                self.assertEqual(told[0] == "must", all(pair in telling for telling in tellings))
                self.assertEqual(told[0] == "never", not any(pair in telling for telling in tellings))
        for word in (("must", "asks"), "may", ("never", "asks"), ("never", None)):
            self.assertGreater(words.count(word), 30)

    def test_must_and_may_of_small_books(self):
        for town, rows, reference in small_books(32, 600, most_tellings=1000):
            tellings = reference.tellings()
            chances = reference.known_chances()
            self.assertEqual(must(town, rows), [pair for pair in chances if all(pair in told for told in tellings)])
            self.assertEqual(may(town, rows), [pair for pair in chances if any(pair in told for told in tellings)])

    def test_is_standing_of_many_tuples(self):
        chance = random.Random(33)
        for town, rows, reference in small_books(34, 60, most_tellings=1000):
            tellings = reference.whole_tellings()
            lists = [list(some) for count in range(4) for there in (reference.asks, reference.jobs)
                     for some in itertools.combinations(there, count)]
            lists += [None, "asks"] + chance.sample(tellings, min(4, len(tellings)))
            for pair in reference.known_chances():
                for _ in range(25):
                    told = (chance.choice(("must", "may", "never")),
                            chance.choice(("asks", "jobs", None, chance.choice(tellings))), chance.choice(lists))
                    self.assert_right(town, rows, *pair, told, reference.is_standing(*pair, told))

    def test_what_really_was_is_never_never_and_what_must_be_was(self):
        chance = random.Random(35)
        for _ in range(100):
            town, rows, pairs = some_true_book(chance)
            known = [pair for pair in pairs if Reference(town, rows).is_known(pair)]
            self.assertTrue(set(must(town, rows)) <= set(known) <= set(may(town, rows)))


class LongBooks(Judging):
    def assert_soon(self, town, rows, some=10):
        start = time.monotonic()
        sure, likely = must(town, rows), may(town, rows)
        self.assertLess(time.monotonic() - start, LITTLE_TIME)
        reference = Reference(town, rows)
        start = time.monotonic()
        picked = random.Random(36).sample(likely, min(some, len(likely)))
        told = [(pair, standing(town, rows, *pair)) for pair in picked]
        self.assertLess(time.monotonic() - start, LITTLE_TIME)
        for pair, one in told:
            self.assertEqual(one[0], "must" if pair in sure else "may")
            if one[0] == "must":
                self.assertTrue(reference.is_short(*one[1:], barred=pair))
            else:
                self.assertTrue(reference.is_whole(one[1]) and reference.is_whole(one[2]))
                self.assertTrue(pair in one[1] and pair not in one[2])
        return sure, likely

    def test_200_rows(self):
        rows = ring_of_six(lambda k: 10, lambda k: 20, lambda k: 10 if k else 0, lambda k: 20 if k else 90)
        rows = [row for row in rows if row[0] != "all"]
        rows += rows[:200 - len(rows)]
        self.assertEqual(len(rows), 200)
        sure, likely = self.assert_soon((SIX, SIX), rows)
        self.assertEqual((sure, len(likely)), ([], 6 * 15 * 14))

    def test_each_led_to_its_own(self):
        # Ask k of the house a may have led to jobs k and k + 1 of b, the last one to the last alone; and so on.
        rows = []
        for house, other in zip("abc", "def"):
            rows += [job(0, -1, 999, house=house), all_row(15, 1, house=house), all_row(0, 15, house=other)]
            rows += [ask(k, 0, 10 * k, 10 * k + (18 if k < 14 else 8), house=house, asked=other) for k in range(15)]
            rows += [job(k, 10 * k + 1, 10 * k + 8, house=other) for k in range(15)]
        pairs = [((house, k), (other, k)) for house, other in zip("abc", "def") for k in range(15)]
        self.assertEqual(self.assert_soon((SIX, ("a", "b", "c")), rows), (pairs, pairs))

    def test_half_of_it_lost(self):
        rows = [all_row(15, 15, house=house) for house in SIX]
        rows += [ask(k, 0, 100, 200, asked="b") for k in range(7)] + [job(k, 100, 150, house="b") for k in range(15)]
        sure, likely = self.assert_soon((SIX, ()), rows)
        self.assertEqual((sure, len(likely)), ([], 7 * 15))

    def test_long_books_of_any_kind(self):
        chance = random.Random(37)
        count = 0
        while count < 8:
            town, rows = some_book(chance, 400, most_houses=6, most_number=14, most_time=10 ** 6)
            try:
                self.assert_soon(town, rows, some=3)
            except Short:
                continue
            count += 1


if __name__ == "__main__":
    unittest.main()

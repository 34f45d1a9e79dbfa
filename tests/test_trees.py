"""Points 2, 3, 17 and 18: the trees of jobs in a telling, and what stands above what over all tellings."""

import random
import time
import unittest

from gapcalls.errors import NoJob, Short, TooMany
from gapcalls.tellings import tellings
from gapcalls.trees import above, all_above, forest, stands_above, under
from reference import Reference, small_books, some_true_book
from samples import CHOICES, LITTLE_TIME, PAIR, SIX, all_row, ask, asked, asks, choices, done, job, jobs

A, B, C = ("a", 0), ("b", 0), ("c", 0)
LINE = (("a", "b", "c"), ("a",))
# a.0 asked b, whose job b.0 asked c, whose job c.0 asked nothing; and all is told.
CHAIN = [
    job(0, 0, 100), ask(0, 0, 10, 90), all_row(1, 1),
    job(0, 20, 80, house="b"), ask(0, 0, 30, 70, house="b", asked="c"), all_row(1, 1, house="b"),
    job(0, 40, 60, house="c"), all_row(0, 1, house="c")]
CHAIN_TELLING = [(A, B), (B, C)]
SHORT = asked((10, 20), (10, 20)) + done((12, 18))


class OneTelling(unittest.TestCase):
    def test_a_chain(self):
        self.assertEqual([above(LINE, CHAIN, CHAIN_TELLING, one) for one in (A, B, C)], [None, A, B])
        self.assertEqual([all_above(LINE, CHAIN, CHAIN_TELLING, one) for one in (A, B, C)], [[], [A], [B, A]])
        self.assertEqual([under(LINE, CHAIN, CHAIN_TELLING, one) for one in (A, B, C)], [[B], [C], []])
        self.assertEqual(forest(LINE, CHAIN, CHAIN_TELLING), [(A, 0), (B, 1), (C, 2)])

    def test_the_kinds_of_what_is_told(self):
        told = forest(LINE, CHAIN, CHAIN_TELLING)
        self.assertIs(type(told), list)
        self.assertEqual({(type(row), type(row[0]), type(row[1])) for row in told}, {(tuple, tuple, int)})
        self.assertIs(type(above(LINE, CHAIN, CHAIN_TELLING, B)), tuple)
        self.assertIs(type(all_above(LINE, CHAIN, CHAIN_TELLING, B)), list)
        self.assertIs(type(under(LINE, CHAIN, CHAIN_TELLING, B)), list)

    def test_nothing_known(self):
        self.assertEqual(forest(LINE, [], []), [])
        self.assertEqual(forest(LINE, [all_row(3, 3)], []), [])

    def test_a_job_under_none(self):
        rows = [job(0, 0, 100), job(1, 5, 6), job(0, 20, 80, house="b")]
        for one in (("a", 0), ("a", 1), ("b", 0)):
            self.assertIsNone(above(LINE, rows, [], one))
            self.assertEqual(all_above(LINE, rows, [], one), [])
            self.assertEqual(under(LINE, rows, [], one), [])
        self.assertEqual(forest(LINE, rows, []), [(("a", 0), 0), (("a", 1), 0), (("b", 0), 0)])

    def test_asks_made_in_a_lost_job(self):
        # a.3 is lost, a.0 to a.2 too; but in a.3 alone a known ask was made.
        rows = [ask(0, 3, 10, 90), job(0, 20, 80, house="b")]
        self.assertEqual(tellings(LINE, rows), [[], [(A, B)]])
        self.assertEqual(above(LINE, rows, [(A, B)], B), ("a", 3))
        self.assertEqual(all_above(LINE, rows, [(A, B)], B), [("a", 3)])
        self.assertIsNone(above(LINE, rows, [(A, B)], ("a", 3)))
        self.assertEqual(under(LINE, rows, [(A, B)], ("a", 3)), [B])
        self.assertEqual(forest(LINE, rows, [(A, B)]), [(("a", 3), 0), (B, 1)])
        self.assertEqual(forest(LINE, rows, []), [(("a", 3), 0), (B, 0)])
        self.assertEqual(under(LINE, rows, [], ("a", 3)), [])

    def test_a_lost_job_in_which_no_known_ask_was_made_does_not_stand_there(self):
        rows = [job(2, 20, 80, house="b"), all_row(0, 3, house="b")]
        self.assertEqual(forest((("a", "b"), ("b",)), rows, []), [(("b", 2), 0)])

    def test_the_number_of_the_job_not_that_of_the_ask(self):
        rows = [ask(5, 2, 10, 90), job(2, 0, 100), job(0, 20, 80, house="b")]
        telling = [(("a", 5), B)]
        self.assertIn(telling, tellings(LINE, rows))
        self.assertEqual(above(LINE, rows, telling, B), ("a", 2))
        self.assertEqual(forest(LINE, rows, telling), [(("a", 2), 0), (B, 1)])

    def test_two_under_one_sorted(self):
        rows = asked((10, 20), (10, 20), (10, 20)) + done((12, 18), (12, 18), (12, 18))
        for telling in tellings(PAIR, rows):
            self.assertEqual(under(PAIR, rows, telling, A), jobs(0, 1, 2))
            self.assertEqual(forest(PAIR, rows, telling), [(A, 0)] + [(one, 1) for one in jobs(0, 1, 2)])
        rows = [job(0, 0, 100), ask(0, 0, 10, 90, asked="c"), ask(1, 0, 15, 90), ask(2, 0, 50, 90, asked="c"),
                job(0, 20, 30, house="b"), job(0, 20, 30, house="c"), job(1, 55, 60, house="c")]
        telling = [(("a", 0), C), (("a", 1), B), (("a", 2), ("c", 1))]
        self.assertIn(telling, tellings(LINE, rows))
        self.assertEqual(under(LINE, rows, telling, A), [B, C, ("c", 1)])

    def test_a_house_that_asks_itself(self):
        rows = [job(0, 0, 100), ask(0, 0, 10, 90, asked="a"), job(1, 20, 80), ask(1, 1, 30, 70, asked="a"),
                job(2, 40, 60), all_row(2, 3)]
        telling = asks_to_jobs((0, 1), (1, 2))
        self.assertEqual(tellings((("a",), ("a",)), rows), [telling])
        self.assertEqual(forest((("a",), ("a",)), rows, telling), [(("a", 0), 0), (("a", 1), 1), (("a", 2), 2)])
        self.assertEqual(all_above((("a",), ("a",)), rows, telling, ("a", 2)), [("a", 1), ("a", 0)])

    def test_the_order_of_the_forest(self):
        # Two tops; under the first one two, under the second of these one, which sorts ahead of all.
        rows = [job(0, 40, 60), all_row(0, 1),
                job(0, 0, 100, house="b"), ask(0, 0, 10, 20, house="b", asked="c"),
                ask(1, 0, 25, 90, house="b", asked="c"), all_row(2, 2, house="b"), job(1, 500, 600, house="b"),
                job(0, 12, 18, house="c"), job(1, 30, 80, house="c"), ask(0, 1, 35, 70, house="c", asked="a"),
                all_row(1, 2, house="c")]
        town = (("a", "b", "c"), ("b",))
        told = [(B, 0), (C, 1), (("c", 1), 1), (A, 2), (("b", 1), 0)]
        telling = tellings(town, rows)
        self.assertEqual(len(telling), 1)
        self.assertEqual(forest(town, rows, telling[0]), told)

    def test_a_long_chain(self):
        # Fifteen jobs of each of six houses, each in the one ahead.
        rows = []
        for at in range(90):
            house, number = SIX[at % 6], at // 6
            rows.append(job(number, 10 * at, 10 ** 6 - 10 * at, house=house))
            if at < 89:
                out, back = 10 * at + 5, 10 ** 6 - 10 * at - 5
                rows.append(ask(number, number, out, back, house=house, asked=SIX[(at + 1) % 6]))
        rows += [all_row(15 if house < "f" else 14, 15, house=house) for house in SIX]
        names = [(SIX[at % 6], at // 6) for at in range(90)]
        telling = sorted(zip(names, names[1:]))
        start = time.monotonic()
        told = forest((SIX, ("a",)), rows, telling)
        self.assertEqual(all_above((SIX, ("a",)), rows, telling, names[-1]), names[:-1][::-1])
        self.assertLess(time.monotonic() - start, LITTLE_TIME)
        self.assertEqual(told, [(name, at) for at, name in enumerate(names)])

    def test_told_lists_are_the_askers_own(self):
        for tell, more in ((all_above, (C,)), (under, (A,)), (forest, ())):
            first = tell(LINE, CHAIN, CHAIN_TELLING, *more)
            kept = list(first)
            first.clear()
            self.assertEqual(tell(LINE, CHAIN, CHAIN_TELLING, *more), kept)

    def test_what_is_handed_in_stays_as_it_was(self):
        rows, telling = list(CHAIN), list(CHAIN_TELLING)
        for tell, more in ((above, (C,)), (all_above, (C,)), (under, (A,)), (forest, ())):
            tell(LINE, rows, telling, *more)
        stands_above(LINE, rows, A, C)
        self.assertEqual((rows, telling), (CHAIN, CHAIN_TELLING))

    def test_trees_of_any_telling(self):
        for town, rows, reference in small_books(61, 200, most_tellings=50):
            made_in = {row[1:3]: (row[1], row[3]) for row in rows if row[0] == "ask"}
            there = sorted(set(reference.known_jobs) | set(made_in.values()))
            for telling in reference.tellings():
                uppers = {other: made_in[one] for one, other in telling}
                told = forest(town, rows, telling)
                self.assertEqual(sorted(one for one, _ in told), there)
                self.assertEqual([one for one, deep in told if deep == 0], [one for one in there if one not in uppers])
                self.assert_each_behind_its_own(told, uppers)
                for one in there:
                    self.assertEqual(above(town, rows, telling, one), uppers.get(one))
                    self.assertEqual(under(town, rows, telling, one), [low for low in there if uppers.get(low) == one])
                    ups = all_above(town, rows, telling, one)
                    self.assertEqual([uppers.get(low) for low in [one] + ups], ups + [None])
                    self.assertNotIn(one, ups)
                    self.assertIn((one, len(ups)), told)

    def assert_each_behind_its_own(self, told, uppers):
        """That behind each job, ahead of the next one as deep or less, stand all under it; at each level sorted."""
        way = []
        for one, deep in told:
            self.assertLessEqual(deep, len(way))
            if deep < len(way):
                self.assertLess(way[deep], one)
            way = way[:deep] + [one]
            self.assertEqual(uppers.get(one), way[-2] if deep else None)


def asks_to_jobs(*numbers):
    """Pairs of asks and jobs of a."""
    return [(("a", one), ("a", other)) for one, other in numbers]


class StandsAbove(unittest.TestCase):
    def assert_told(self, town, rows, one, other, wanted):
        told = stands_above(town, rows, one, other)
        self.assertIs(type(told), tuple)
        self.assertEqual(told[0], wanted)
        if wanted == "sometimes":
            self.assertEqual([type(part) for part in told], [str, list, list])
            all_tellings = tellings(town, rows)
            for telling, stands in zip(told[1:], (True, False)):
                self.assertIn(telling, all_tellings)
                self.assertEqual(one in all_above(town, rows, telling, other), stands)
        else:
            self.assertEqual(told, (wanted,))

    def test_always(self):
        for one, other in ((A, B), (B, C), (A, C)):
            self.assert_told(LINE, CHAIN, one, other, "always")

    def test_never(self):
        for one, other in ((B, A), (C, B), (C, A)):
            self.assert_told(LINE, CHAIN, one, other, "never")
        rows = [job(0, 0, 100), job(0, 20, 80, house="b")]
        self.assert_told(LINE, rows, A, B, "never")

    def test_one_and_itself(self):
        for one in (A, B, C):
            self.assert_told(LINE, CHAIN, one, one, "never")

    def test_sometimes(self):
        # Of two jobs of b the ask made in a.0 led to one.
        for number in range(2):
            self.assert_told(CHOICES, choices(2), A, ("b", number), "sometimes")
            self.assert_told(CHOICES, choices(2), ("b", number), A, "never")
        # b is open, and a gate: what a.0 asked for need not have been b.0, which need not have been asked for.
        rows = [row for row in CHAIN if row != all_row(1, 1, house="b")]
        town = (("a", "b", "c"), ("a", "b"))
        self.assert_told(town, rows, A, B, "sometimes")
        self.assert_told(town, rows, B, C, "always")
        self.assert_told(town, rows, A, C, "sometimes")

    def test_always_by_one_way_or_another(self):
        # a.0 asked twice, and b.0 came of the one or the other.
        rows = asked((10, 20), (10, 20)) + done((12, 18), (12, 18))
        self.assertEqual(len(tellings(PAIR, rows)), 2)
        self.assert_told(PAIR, rows, A, B, "always")
        self.assert_told(PAIR, rows, A, ("b", 1), "always")

    def test_lost_jobs_in_which_known_asks_were_made(self):
        rows = [ask(0, 3, 10, 90), all_row(1, 4), job(0, 20, 80, house="b"), all_row(0, 1, house="b"),
                all_row(0, 0, house="c")]
        self.assert_told(LINE, rows, ("a", 3), B, "always")
        self.assert_told(LINE, rows, B, ("a", 3), "never")
        self.assert_told(LINE, rows, ("a", 3), ("a", 3), "never")

    def assert_refused(self, error, town, rows, one, other):
        with self.assertRaises(error) as caught:
            stands_above(town, rows, one, other)
        self.assertIs(type(caught.exception), error)
        return caught.exception

    def test_jobs_that_there_are_not(self):
        for wrong in (("a", 1), ("a", -1), ("a", 10 ** 5000), ("z", 0), ("", 0), ("b", 14)):
            self.assert_refused(NoJob, LINE, CHAIN, wrong, A)
            self.assert_refused(NoJob, LINE, CHAIN, A, wrong)
            self.assert_refused(NoJob, LINE, CHAIN, wrong, wrong)

    def test_lost_jobs_in_which_no_known_ask_was_made(self):
        rows = [ask(0, 3, 10, 90), job(0, 20, 80, house="b")]
        self.assert_told(LINE, rows, ("a", 3), B, "sometimes")
        for number in range(3):
            self.assert_refused(NoJob, LINE, rows, ("a", number), B)
            self.assert_refused(NoJob, LINE, rows, B, ("a", number))

    def test_no_job_ahead_of_short(self):
        self.assert_refused(NoJob, PAIR, SHORT, ("a", 1), B)
        self.assert_refused(NoJob, PAIR, SHORT, A, ("b", 1))
        for one, other in ((A, B), (B, A), (A, A)):
            caught = self.assert_refused(Short, PAIR, SHORT, one, other)
            self.assertTrue(Reference(PAIR, SHORT).is_short(caught.side, caught.some))
        self.assertEqual(self.assert_refused(Short, PAIR, SHORT, A, B).some, asks(0, 1))

    def test_two_hundred_tellings_and_more(self):
        rows = choices(10, 10, 2)
        self.assert_told(CHOICES, rows, A, ("b", 3), "sometimes")
        self.assert_told(CHOICES, rows, A, A, "never")
        for rows in (choices(15, 14), choices(15, 15, 15)):
            for one, other in ((A, ("b", 0)), (A, A), (("b", 0), A)):
                self.assert_refused(TooMany, CHOICES, rows, one, other)
            self.assert_refused(NoJob, CHOICES, rows, A, ("f", 0))

    def test_what_is_told_is_the_askers_own(self):
        told = stands_above(CHOICES, choices(2), A, B)
        kept = [list(part) for part in told[1:]]
        told[1].clear()
        told[2].clear()
        self.assertEqual(list(stands_above(CHOICES, choices(2), A, B)[1:]), kept)

    def test_over_all_tellings_of_small_books(self):
        words = []
        for town, rows, reference in small_books(62, 100, most_tellings=200):
            made_in = [(row[1], row[3]) for row in rows if row[0] == "ask"]
            there = sorted(set(reference.known_jobs) | set(made_in))
            all_tellings = reference.tellings()
            for one in there:
                for other in there:
                    stands = [one in all_above(town, rows, telling, other) for telling in all_tellings]
                    wanted = "always" if all(stands) else "sometimes" if any(stands) else "never"
                    words.append(wanted)
                    self.assert_told(town, rows, one, other, wanted)
        for word in ("always", "sometimes", "never"):
            self.assertGreater(words.count(word), 30)

    def test_what_really_was(self):
        chance = random.Random(63)
        for _ in range(40):
            town, rows, pairs = some_true_book(chance)
            reference = Reference(town, rows)
            known = [pair for pair in pairs if reference.is_known(pair)]
            for one in reference.known_jobs[:5]:
                for upper in all_above(town, rows, known, one):
                    try:
                        self.assertIn(stands_above(town, rows, upper, one)[0], ("always", "sometimes"))
                    except TooMany:
                        pass


if __name__ == "__main__":
    unittest.main()

"""Points 2, 3, 19 and 20: shifts by which pairs are in time, rings, and how far apart two clocks may be."""

import itertools
import random
import time
import unittest

from gapcalls.clocks import greatest, in_time, is_ring, shifts
from gapcalls.errors import Clash, NoRow, OffTime
from gapcalls.whole import whole
from reference import some_book
from samples import LITTLE_TIME, PAIR, SIX, all_row, ask, job, pairs_of

THREE = (("a", "b", "c"), ("a",))

# All asks are made in job 0 of their house, and no row tells of that one: so none clashes with other jobs.
# Here the job lies within its ask by 2 at the start and by 3 at the end.
LOOSE = [ask(0, 0, 10, 20), job(1, 12, 17, house="b")]
# The job begins 5 ahead of its ask and ends 4 behind it: too long for it, whatever the shifts.
TOO_LONG = [ask(0, 0, 10, 20), job(1, 5, 24, house="b")]
# The job is 100 early, and no longer than its ask.
EARLY = [ask(0, 0, 10, 20), job(1, -90, -80, house="b")]
ONE = pairs_of((0, 1))


def links_of(rows, pairs):
    """The links that come of pairs, by the words of the document."""
    told = []
    for one, other in pairs:
        _, h, _, _, g, out, back = next(row for row in rows if row[0] == "ask" and row[1:3] == one)
        _, _, _, begin, end = next(row for row in rows if row[0] == "job" and row[1:3] == other)
        told += [(h, g, begin - out), (g, h, back - end)]
    return told


def are_shifts(town, rows, pairs, told):
    return set(told) == set(town[0]) and all(
        told[one] - told[other] <= most for one, other, most in links_of(rows, pairs))


def are_links_of_a_ring(rows, pairs, links):
    there = links_of(rows, pairs)
    return (bool(links) and all(link in there for link in links) and sum(link[2] for link in links) < 0
            and all(link[1] == following[0] for link, following in zip(links, links[1:] + links[:1])))


def some_pairs(chance, rows, most):
    """Pairs of known asks and known jobs of the houses that they asked, some perhaps several times."""
    there = [(one[1:3], other[1:3]) for one in rows for other in rows
             if one[0] == "ask" and other[0] == "job" and other[1] == one[4]]
    return [chance.choice(there) for _ in range(chance.randint(0, most))] if there else []


def some_long_asks(chance):
    """A town and a book of it in which jobs are short and asks long: what clashes does so around several houses."""
    houses = SIX[:chance.randint(3, 6)]
    rows = []
    for house in houses:
        outs, begins = (sorted(chance.randint(0, 40) for _ in range(3)) for _ in range(2))
        rows += [ask(at, 0, out, out + 30, house=house, asked=chance.choice(houses)) for at, out in enumerate(outs)]
        rows += [job(at + 1, begin, begin + 1, house=house) for at, begin in enumerate(begins)]
    return (houses, ()), rows


class Judging(unittest.TestCase):
    def assert_shifts(self, town, rows, pairs, told, wanted):
        self.assertIs(in_time(town, rows, pairs, told), wanted, (town, rows, pairs, told))

    def assert_ring(self, town, rows, pairs, links, wanted):
        self.assertIs(is_ring(town, rows, pairs, links), wanted, (town, rows, pairs, links))

    def assert_told(self, town, rows, pairs):
        """That right shifts or a ring are told; and tells which."""
        told = shifts(town, rows, pairs)
        self.assertEqual((type(told), len(told)), (tuple, 2))
        if told[0] == "shifts":
            self.assertIs(type(told[1]), dict)
            self.assertEqual({type(one) for one in told[1].values()}, {int})
            self.assertTrue(are_shifts(town, rows, pairs, told[1]), (town, rows, pairs, told))
            self.assert_shifts(town, rows, pairs, told[1], True)
        else:
            self.assertEqual(told[0], "ring")
            self.assert_links(told[1])
            self.assertTrue(are_links_of_a_ring(rows, pairs, told[1]), (town, rows, pairs, told))
            self.assert_ring(town, rows, pairs, told[1], True)
        return told

    def assert_links(self, links):
        self.assertIs(type(links), list)
        for link in links:
            self.assertEqual((type(link), [type(part) for part in link]), (tuple, [str, str, int]))

    def assert_greatest(self, town, rows, pairs, one, other, wanted):
        """That the number is told, with links that show it; None where it is wanted."""
        told = greatest(town, rows, pairs, one, other)
        if wanted is None:
            self.assertIsNone(told)
            return
        self.assertEqual((type(told), len(told), told[0]), (tuple, 2, wanted))
        self.assertIs(type(told[0]), int)
        self.assert_links(told[1])
        there = links_of(rows, pairs)
        at = one
        for link in told[1]:
            self.assertIn(link, there)
            self.assertEqual(link[0], at)
            at = link[1]
        self.assertEqual((at, sum(link[2] for link in told[1])), (other, wanted))

    def assert_off_time(self, town, rows, pairs, one, other):
        with self.assertRaises(OffTime) as caught:
            greatest(town, rows, pairs, one, other)
        self.assertTrue(are_links_of_a_ring(rows, pairs, caught.exception.links))
        self.assertIs(type(caught.exception.links), list)


class InTime(Judging):
    def test_no_pairs(self):
        for told in ({"a": 0, "b": 0}, {"b": -10 ** 5000, "a": 10 ** 5000}):
            self.assert_shifts(PAIR, LOOSE, [], told, True)
            self.assert_shifts(PAIR, [], [], told, True)

    def test_just_at_the_edge_and_one_beyond(self):
        for shift in range(-6, 6):
            for more in (0, 7, -10 ** 30):
                told = {"a": shift + more, "b": more}
                self.assert_shifts(PAIR, LOOSE, ONE, told, -3 <= shift <= 2)
        for shift in range(-105, -95):
            self.assert_shifts(PAIR, EARLY, ONE, {"a": shift, "b": 0}, shift == -100)
            self.assert_shifts(PAIR, EARLY, ONE, {"a": 0, "b": -shift}, shift == -100)

    def test_a_house_too_few_or_too_many(self):
        for told in ({}, {"a": 0}, {"b": 0}, {"a": 0, "b": 0, "c": 0}, {"a": 0, "c": 0}, {"a": 0, "": 0},
                     {"a": 0, "B": 0}, {"a": 0, "b": 0, "": 0}, {"a ": 0, "b": 0}):
            self.assert_shifts(PAIR, LOOSE, ONE, told, False)
            self.assert_shifts(PAIR, LOOSE, [], told, False)
            self.assert_shifts(PAIR, [], [], told, False)

    def test_a_house_of_no_pair_has_a_shift_too(self):
        self.assert_shifts(THREE, LOOSE, ONE, {"a": 0, "b": 0}, False)
        self.assert_shifts(THREE, LOOSE, ONE, {"a": 0, "b": 0, "c": 10 ** 20}, True)

    def test_in_whatever_order_the_houses_stand(self):
        for order in itertools.permutations((("a", 0), ("b", 1), ("c", 5))):
            self.assert_shifts(THREE, LOOSE, ONE, dict(order), True)

    def test_an_ask_of_a_house_of_itself(self):
        rows = [ask(0, 0, 10, 20, asked="a"), job(1, 5, 19), job(2, 10, 20), job(3, 12, 21)]
        for shift in (0, 5, -5):
            for number in (1, 2, 3):
                self.assert_shifts(PAIR, rows, [(("a", 0), ("a", number))], {"a": shift, "b": 0}, number == 2)

    def test_each_of_several_pairs(self):
        rows = LOOSE + [ask(0, 0, 0, 100, house="b", asked="c"), job(1, 50, 60, house="c")]
        pairs = ONE + [(("b", 0), ("c", 1))]
        self.assert_shifts(THREE, rows, pairs, {"a": 0, "b": 0, "c": 0}, True)
        self.assert_shifts(THREE, rows, pairs, {"a": 0, "b": 0, "c": 40}, True)
        self.assert_shifts(THREE, rows, pairs, {"a": 0, "b": 0, "c": 41}, False)
        self.assert_shifts(THREE, rows, pairs, {"a": 3, "b": 0, "c": 0}, False)
        self.assert_shifts(THREE, rows, pairs[::-1] * 2, {"a": 0, "b": 0, "c": 40}, True)

    def test_what_is_handed_in_stays_as_it_was(self):
        rows, pairs, told, links = list(LOOSE), list(ONE), {"a": 0, "b": 0}, [("a", "b", 2)]
        in_time(PAIR, rows, pairs, told)
        is_ring(PAIR, rows, pairs, links)
        shifts(PAIR, rows, pairs)
        greatest(PAIR, rows, pairs, "a", "b")
        self.assertEqual((rows, pairs, told, links), (LOOSE, ONE, {"a": 0, "b": 0}, [("a", "b", 2)]))


class Rings(Judging):
    def test_of_two_links(self):
        self.assert_ring(PAIR, TOO_LONG, ONE, [("a", "b", -5), ("b", "a", -4)], True)
        self.assert_ring(PAIR, TOO_LONG, ONE, [("b", "a", -4), ("a", "b", -5)], True)
        self.assert_ring(PAIR, TOO_LONG, ONE, [("a", "b", -5), ("b", "a", -4)] * 2, True)

    def test_none_and_not_closed(self):
        for links in ([], [("a", "b", -5)], [("b", "a", -4)], [("a", "b", -5), ("a", "b", -5)],
                      [("a", "b", -5), ("b", "a", -4), ("a", "b", -5)]):
            self.assert_ring(PAIR, TOO_LONG, ONE, links, False)

    def test_links_that_come_of_no_pair(self):
        for links in ([("a", "b", -6), ("b", "a", -4)], [("a", "b", -5), ("b", "a", -5)], [("a", "a", -1)],
                      [("a", "b", -4), ("b", "a", -5)], [("a", "z", -5), ("z", "a", -4)], [("", "", -1)],
                      [("a", "b", -5), ("b", "a", -10 ** 5000)]):
            self.assert_ring(PAIR, TOO_LONG, ONE, links, False)
        self.assert_ring(PAIR, TOO_LONG, [], [("a", "b", -5), ("b", "a", -4)], False)

    def test_turned_about(self):
        self.assert_ring(PAIR, TOO_LONG, ONE, [("b", "a", -5), ("a", "b", -4)], False)

    def test_a_sum_of_0_and_above(self):
        self.assert_ring(PAIR, EARLY, ONE, [("a", "b", -100), ("b", "a", 100)], False)
        self.assert_ring(PAIR, LOOSE, ONE, [("a", "b", 2), ("b", "a", 3)], False)
        rows = [ask(0, 0, 10, 20), job(1, -90, -79, house="b")]
        self.assert_ring(PAIR, rows, ONE, [("a", "b", -100), ("b", "a", 99)], True)

    def test_of_one_link(self):
        rows = [ask(0, 0, 10, 20, asked="a"), job(1, 5, 90), job(2, 12, 17)]
        pairs = [(("a", 0), ("a", 1))]
        self.assert_ring(PAIR, rows, pairs, [("a", "a", -5)], True)
        self.assert_ring(PAIR, rows, pairs, [("a", "a", -70)], True)
        self.assert_ring(PAIR, rows, pairs, [("a", "a", -70), ("a", "a", -5)], True)
        self.assert_ring(PAIR, rows, pairs, [("a", "a", -6)], False)
        self.assert_ring(PAIR, rows, pairs, [("b", "b", -5)], False)
        self.assert_ring(PAIR, rows, [(("a", 0), ("a", 2))], [("a", "a", 2)], False)

    # Each house asked the next one around; each job began 1 ahead of its ask, and ended far ahead of its end.
    ROUND = [ask(0, 0, 10, 99), job(1, 9, 50, house="b"), ask(0, 0, 10, 99, house="b", asked="c"),
             job(1, 9, 50, house="c"), ask(0, 0, 10, 99, house="c", asked="a"), job(1, 9, 50)]
    ROUND_PAIRS = [(("a", 0), ("b", 1)), (("b", 0), ("c", 1)), (("c", 0), ("a", 1))]

    def test_of_several_links(self):
        links = [("a", "b", -1), ("b", "c", -1), ("c", "a", -1)]
        for at in range(3):
            self.assert_ring(THREE, self.ROUND, self.ROUND_PAIRS, links[at:] + links[:at], True)
        self.assert_ring(THREE, self.ROUND, self.ROUND_PAIRS, links * 3, True)
        for order in ([0, 2, 1], [1, 0, 2], [2, 1, 0]):
            self.assert_ring(THREE, self.ROUND, self.ROUND_PAIRS, [links[at] for at in order], False)
        for at in range(3):
            self.assert_ring(THREE, self.ROUND, self.ROUND_PAIRS, links[:at] + links[at + 1:], False)
            self.assert_ring(THREE, self.ROUND, self.ROUND_PAIRS[:at] + self.ROUND_PAIRS[at + 1:], links, False)
        turned = [(other, one, most) for one, other, most in links[::-1]]
        self.assert_ring(THREE, self.ROUND, self.ROUND_PAIRS, turned, False)

    def test_the_only_ring_of_several_links_is_told(self):
        told = self.assert_told(THREE, self.ROUND, self.ROUND_PAIRS)
        self.assertEqual(told[0], "ring")
        for at in range(3):
            rest = self.ROUND_PAIRS[:at] + self.ROUND_PAIRS[at + 1:]
            self.assertEqual(self.assert_told(THREE, self.ROUND, rest)[0], "shifts")


class Told(Judging):
    def test_no_pairs(self):
        for town in (PAIR, THREE, (SIX, ())):
            for rows in ([], [all_row(1, 1)]):
                told = self.assert_told(town, rows, [])
                self.assertEqual((told[0], sorted(told[1])), ("shifts", list(town[0])))

    def test_shifts_that_need_not_be_and_that_must(self):
        self.assertEqual(self.assert_told(PAIR, LOOSE, ONE)[0], "shifts")
        told = self.assert_told(PAIR, EARLY, ONE)
        self.assertEqual((told[0], told[1]["a"] - told[1]["b"]), ("shifts", -100))

    def test_a_ring_of_one_pair(self):
        told = self.assert_told(PAIR, TOO_LONG, ONE)
        self.assertEqual((told[0], sorted(told[1])), ("ring", [("a", "b", -5), ("b", "a", -4)]))

    def test_a_ring_of_a_house_of_itself(self):
        rows = [ask(0, 0, 10, 20, asked="a"), job(1, 5, 19)]
        self.assertEqual(self.assert_told((("a",), ()), rows, [(("a", 0), ("a", 1))]), ("ring", [("a", "a", -5)]))

    def test_times_at_their_bounds(self):
        most = 10 ** 12
        rows = [ask(0, 0, most, most), job(1, -most, -most, house="b"), ask(0, 0, -most, -most, house="b", asked="c"),
                job(1, most, most, house="c")]
        pairs = [(("a", 0), ("b", 1)), (("b", 0), ("c", 1))]
        told = self.assert_told(THREE, rows, pairs)[1]
        self.assertEqual((told["a"] - told["b"], told["b"] - told["c"]), (-2 * most, 2 * most))
        self.assert_greatest(THREE, rows, pairs, "a", "c", 0)

    def test_never_both(self):
        chance = random.Random(71)
        words = []
        for _ in range(1000):
            town, rows = some_book(chance, 14, most_houses=4, most_time=chance.choice((4, 9, 30)))
            words.append(self.word_of(town, rows, some_pairs(chance, rows, 6)))
        for _ in range(1000):
            town, rows = some_long_asks(chance)
            words.append(self.word_of(town, rows, some_pairs(chance, rows, 6)))
        for word in ("shifts", ("ring", 1), ("ring", 2), ("ring", 3), ("ring", 4)):
            self.assertIn(word, words)

    def word_of(self, town, rows, pairs):
        told = self.assert_told(town, rows, pairs)
        return told[0] if told[0] == "shifts" else (told[0], len(told[1]))

    def test_many_pairs_of_six_houses(self):
        chance = random.Random(72)
        for _ in range(5):
            town, rows = some_book(chance, 400, most_houses=6, most_number=14, most_time=10 ** 6)
            pairs = some_pairs(chance, rows, 200)
            start = time.monotonic()
            self.assert_told(town, rows, pairs)
            self.assertLess(time.monotonic() - start, LITTLE_TIME)

    def test_what_is_told_is_the_askers_own(self):
        told = shifts(PAIR, EARLY, ONE)
        kept = dict(told[1])
        told[1].clear()
        self.assertEqual(shifts(PAIR, EARLY, ONE), ("shifts", kept))
        told = shifts(PAIR, TOO_LONG, ONE)
        kept = list(told[1])
        told[1].clear()
        self.assertEqual(shifts(PAIR, TOO_LONG, ONE), ("ring", kept))
        for one, other in (("a", "b"), ("a", "a")):
            told = greatest(PAIR, LOOSE, ONE, one, other)
            kept = list(told[1])
            told[1].append("more")
            self.assertEqual(greatest(PAIR, LOOSE, ONE, one, other)[1], kept)


class Greatest(Judging):
    def test_by_one_link(self):
        self.assert_greatest(PAIR, LOOSE, ONE, "a", "b", 2)
        self.assert_greatest(PAIR, LOOSE, ONE, "b", "a", 3)
        self.assert_greatest(PAIR, EARLY, ONE, "a", "b", -100)
        self.assert_greatest(PAIR, EARLY, ONE, "b", "a", 100)

    def test_by_the_least_of_several_links(self):
        rows = LOOSE + [ask(1, 0, 50, 60), job(2, 51, 52, house="b")]
        self.assert_greatest(PAIR, rows, pairs_of((0, 1), (1, 2)), "a", "b", 1)
        self.assert_greatest(PAIR, rows, pairs_of((1, 2), (0, 1)), "b", "a", 3)

    def test_by_links_one_behind_the_other(self):
        # From a to c at once at most 50, by way of b at most 2 + 7.
        rows = LOOSE + [ask(0, 0, 100, 200, house="b", asked="c"), job(1, 107, 190, house="c"),
                        ask(1, 0, 300, 400, asked="c"), job(2, 350, 360, house="c")]
        pairs = ONE + [(("b", 0), ("c", 1)), (("a", 1), ("c", 2))]
        self.assert_greatest(THREE, rows, pairs, "a", "c", 9)
        self.assertEqual(greatest(THREE, rows, pairs, "a", "c"), (9, [("a", "b", 2), ("b", "c", 7)]))
        self.assert_greatest(THREE, rows, pairs, "c", "a", 13)
        self.assert_greatest(THREE, rows, pairs[2:], "a", "c", 50)

    def test_none_where_nothing_bounds_it(self):
        for one, other in (("a", "c"), ("c", "a"), ("b", "c"), ("c", "b")):
            self.assert_greatest(THREE, LOOSE, ONE, one, other, None)
        self.assert_greatest(PAIR, LOOSE, [], "a", "b", None)
        self.assert_greatest(PAIR, [], [], "b", "a", None)

    def test_a_house_and_itself(self):
        for rows, pairs in ((LOOSE, ONE), (EARLY, ONE), (LOOSE, []), ([], [])):
            for house in "ab":
                self.assertEqual(greatest(PAIR, rows, pairs, house, house), (0, []))
        rows = [ask(0, 0, 10, 20, asked="a"), job(1, 12, 17)]
        self.assertEqual(greatest(PAIR, rows, [(("a", 0), ("a", 1))], "a", "a"), (0, []))

    def test_links_of_a_house_of_itself_are_not_needed(self):
        rows = LOOSE + [ask(1, 0, 30, 40, asked="a"), job(1, 30, 40)]
        self.assert_greatest(PAIR, rows, ONE + [(("a", 1), ("a", 1))], "a", "b", 2)

    def test_off_time(self):
        for one, other in itertools.product("abc", "abc"):
            self.assert_off_time(THREE, TOO_LONG, ONE, one, other)
            self.assert_off_time(THREE, Rings.ROUND, Rings.ROUND_PAIRS, one, other)

    def test_off_time_by_links_of_one_house(self):
        rows = LOOSE + [ask(0, 0, 10, 20, house="c", asked="c"), job(1, 5, 19, house="c")]
        pairs = ONE + [(("c", 0), ("c", 1))]
        for one, other in itertools.product("abc", "abc"):
            self.assert_off_time(THREE, rows, pairs, one, other)

    def test_the_links_of_off_time_are_the_askers_own(self):
        for _ in range(2):
            with self.assertRaises(OffTime) as caught:
                greatest(PAIR, TOO_LONG, ONE, "a", "b")
            self.assertEqual(len(caught.exception.links), 2)
            caught.exception.links.clear()

    def test_against_a_search_over_small_shifts(self):
        chance = random.Random(73)
        count = 0
        while count < 60:
            town, rows = some_book(chance, 12, most_time=4)
            pairs = some_pairs(chance, rows, 4)
            # Shifts that differ alike differ in nothing: one clock is left as it is.
            houses = town[0]
            others = itertools.product(range(-20, 21), repeat=len(houses) - 1)
            found = [dict(zip(houses, (0,) + some)) for some in others]
            found = [some for some in found if are_shifts(town, rows, pairs, some)]
            self.assertEqual(shifts(town, rows, pairs)[0] == "shifts", found != [])
            if not found:
                continue
            count += 1
            for one, other in itertools.product(houses, houses):
                most = max(some[one] - some[other] for some in found)
                # All links are short: what goes so far may go as far as you like.
                self.assert_greatest(town, rows, pairs, one, other, None if most >= 15 else most)


class NoBook(unittest.TestCase):
    CALLS = (
        (in_time, ([], {"a": 0, "b": 0})), (in_time, (ONE, {})), (is_ring, ([], [])), (is_ring, (ONE, [("a", "b", 1)])),
        (shifts, ([],)), (shifts, (ONE,)), (greatest, ([], "a", "b")), (greatest, (ONE, "a", "a")))

    def test_no_row_then_clash(self):
        clashing = [job(1, 5, 24, house="b"), job(1, 5, 25, house="b")]
        other_town = [job(0, 0, 1, house="c")]
        for tell, more in self.CALLS:
            for rows, number in ((TOO_LONG + [None], 2), (clashing + [()], 2), (other_town + clashing, 0)):
                with self.assertRaises(NoRow) as caught:
                    tell(PAIR, rows, *more)
                self.assertEqual(caught.exception.number, number)
            with self.assertRaises(Clash) as caught:
                tell(PAIR, TOO_LONG + clashing[1:], *more)
            self.assertEqual((caught.exception.first, caught.exception.second), (1, 2))

    def test_a_book_without_a_whole_telling_is_not_refused(self):
        rows = [ask(0, 0, 10, 20), all_row(1, 1), job(1, 50, 55, house="b"), all_row(0, 2, house="b")]
        self.assertEqual(whole(PAIR, rows)[0], "short")
        self.assertEqual(shifts(PAIR, rows, ONE)[0], "shifts")
        self.assertEqual(greatest(PAIR, rows, ONE, "a", "b")[0], 40)


if __name__ == "__main__":
    unittest.main()

"""Points 2, 3, 11 and 12: whole tellings, and what is short where there is none."""

import itertools
import random
import time
import unittest

from gapcalls.whole import is_short, is_whole, whole
from reference import Reference, some_book, some_true_book
from samples import (
    LITTLE_TIME, PAIR, SIX, TOWN, all_row, ask, asked, asks, done, job, jobs, pairs_of, ring_of_six)


class Judging(unittest.TestCase):
    def assert_told(self, town, rows):
        """That a whole telling is told, or what is short; and tells which."""
        told = whole(town, rows)
        reference = Reference(town, rows)
        self.assertIs(type(told), tuple)
        self.assertIs(type(told[-1]), list)
        if told[0] == "whole":
            self.assertEqual(len(told), 2)
            self.assert_pairs(told[1])
            self.assertTrue(reference.is_whole(told[1]), (town, rows, told))
            self.assert_whole(town, rows, told[1], True)
        else:
            word, side, some = told
            self.assertEqual(word, "short")
            self.assertIn(side, ("asks", "jobs"))
            self.assert_tuples(some)
            self.assertTrue(reference.is_short(side, some), (town, rows, told))
            self.assert_short(town, rows, side, some, True)
        return told

    def assert_tuples(self, told):
        for one in told:
            self.assertEqual((type(one), type(one[0]), type(one[1]), len(one)), (tuple, str, int, 2))

    def assert_pairs(self, told):
        for pair in told:
            self.assertIs(type(pair), tuple)
            self.assertEqual(len(pair), 2)
            self.assert_tuples(pair)

    def assert_whole(self, town, rows, pairs, wanted):
        self.assertIs(is_whole(town, rows, pairs), wanted, (town, rows, pairs))

    def assert_short(self, town, rows, side, some, wanted):
        self.assertIs(is_short(town, rows, side, some), wanted, (town, rows, side, some))


class One(Judging):
    """Books with just one whole telling."""

    def assert_one(self, town, rows, pairs):
        self.assertEqual(self.assert_told(town, rows), ("whole", pairs))
        self.assertEqual(Reference(town, rows).whole_tellings(), [pairs])

    def test_one_ask_and_one_job(self):
        self.assert_one(PAIR, asked((10, 20)) + done((12, 18)), pairs_of((0, 0)))

    def test_no_rows_but_all_rows_of_counts_0(self):
        self.assert_one(PAIR, [all_row(0, 0), all_row(0, 0, house="b")], [])

    def test_each_ask_has_but_one_job(self):
        rows = asked((10, 20), (30, 40), (50, 60)) + done((12, 12), (33, 39), (50, 60))
        self.assert_one(PAIR, rows, pairs_of((0, 0), (1, 1), (2, 2)))

    def test_each_is_left_to_the_one_that_has_no_other(self):
        # b.0 came of a.0 alone; so b.1 of a.1, b.2 of a.2, b.3 of a.3, though each of these might have come of others.
        rows = asked((0, 40), (10, 50), (20, 60), (30, 45)) + done((5, 35), (15, 39), (25, 48), (31, 45))
        self.assert_one(PAIR, rows, pairs_of((0, 0), (1, 1), (2, 2), (3, 3)))

    def test_a_job_that_must_stand_takes_the_ask_of_one_that_need_not(self):
        # The lost ask of a must have led to a job, that of the gate b or that of c, which came of no other.
        rows = [all_row(1, 0), all_row(0, 1, house="b"), all_row(0, 1, house="c")]
        self.assert_one(TOWN, rows, [(("a", 0), ("c", 0))])

    def test_an_ask_that_may_have_led_to_more_jobs_needs_none(self):
        # No known job of c is within a.0, but c is open; its more jobs began from the begin of c.0 on.
        town = (("a", "b", "c"), ("a",))
        rows = [ask(0, 0, 10, 20, asked="c"), ask(1, 0, 10, 20), all_row(2, 1), job(0, 0, 90),
                job(0, 12, 18, house="b"), all_row(0, 1, house="b")]
        self.assert_one(town, rows + [job(0, 20, 22, house="c")], pairs_of((1, 0)))
        self.assertEqual(self.assert_told(town, rows + [job(0, 21, 22, house="c")]), ("short", "asks", asks(0)))

    def test_lost_on_both_sides(self):
        self.assert_one((("a",), ()), [all_row(1, 1)], [(("a", 0), ("a", 0))])

    def test_rows_several_times_and_in_any_order(self):
        rows = asked((10, 20), (30, 40)) + done((12, 12), (33, 39))
        self.assert_one(PAIR, rows[::-1] + rows, pairs_of((0, 0), (1, 1)))


class Many(Judging):
    def test_no_rows(self):
        for town in (PAIR, TOWN, (("a",), ()), (SIX, SIX)):
            self.assertEqual(self.assert_told(town, []), ("whole", []))
            self.assert_whole(town, [], [], True)
            self.assert_short(town, [], "asks", [], False)
            self.assert_short(town, [], "jobs", [], False)

    def test_any_of_several(self):
        rows = asked((10, 20), (10, 20), (10, 20)) + done((12, 18), (12, 18), (12, 18))
        self.assertEqual(self.assert_told(PAIR, rows)[0], "whole")
        for others in itertools.permutations(range(3)):
            self.assert_whole(PAIR, rows, pairs_of(*enumerate(others)), True)

    def test_what_need_not_stand_may(self):
        # b is open: the ask may have led to b.0 or to more jobs, b.0 come of the ask or of more asks of b.
        rows = asked((10, 20)) + [job(0, 12, 18, house="b")]
        self.assertEqual(self.assert_told(PAIR, rows)[0], "whole")
        self.assert_whole(PAIR, rows, [], True)
        self.assert_whole(PAIR, rows, pairs_of((0, 0)), True)


class TooFew(Judging):
    def test_too_few_jobs(self):
        rows = asked((10, 20), (10, 20)) + done((12, 18))
        self.assertEqual(self.assert_told(PAIR, rows), ("short", "asks", asks(0, 1)))

    def test_no_job_at_all(self):
        self.assertEqual(self.assert_told(PAIR, asked((10, 20)) + done()), ("short", "asks", asks(0)))

    def test_a_job_out_of_time(self):
        self.assertEqual(self.assert_told((("a", "b"), ("a", "b")), asked((10, 20)) + done((9, 18))),
                         ("short", "asks", asks(0)))

    def test_too_few_asks(self):
        rows = asked((10, 20)) + done((12, 18), (12, 18))
        self.assertEqual(self.assert_told(PAIR, rows), ("short", "jobs", jobs(0, 1)))

    def test_no_ask_at_all(self):
        self.assertEqual(self.assert_told(PAIR, asked() + done((12, 18))), ("short", "jobs", jobs(0)))

    def test_a_gates_job_may_come_from_outside(self):
        both = (("a", "b"), ("a", "b"))
        self.assertEqual(self.assert_told(both, asked((10, 20)) + done((12, 18), (12, 18)))[0], "whole")
        self.assertEqual(self.assert_told(both, asked() + done((12, 18))), ("whole", []))

    def test_jobs_of_no_gate_at_all(self):
        self.assertEqual(self.assert_told((("a", "b"), ()), asked() + done()), ("short", "jobs", [("a", 0)]))

    def test_an_open_house_lets_go(self):
        town = (("a", "b", "c"), ("a",))
        rows = asked((10, 20)) + done((12, 18), (12, 18))
        self.assertEqual(self.assert_told(town, rows)[0], "whole")
        self.assertEqual(self.assert_told(town, rows + [all_row(0, 0, house="c")])[0], "short")
        rows = asked((10, 20), (10, 20)) + [job(0, 12, 18, house="b")]
        self.assertEqual(self.assert_told(PAIR, rows)[0], "whole")
        self.assertEqual(self.assert_told(PAIR, rows + [all_row(0, 1, house="b")])[0], "short")

    def test_too_few_on_both_sides(self):
        rows = asked((10, 20), (10, 20)) + done((50, 60))
        self.assertEqual(self.assert_told(PAIR, rows)[0], "short")

    def test_some_among_many(self):
        # Three asks have but b.1 and b.2; the others have enough.
        rows = asked((0, 90), (0, 90), (20, 40), (20, 40), (20, 40))
        rows += done((1, 2), (22, 30), (23, 31), (50, 60), (51, 61))
        self.assertEqual(self.assert_told(PAIR, rows), ("short", "asks", asks(2, 3, 4)))

    def test_where_there_is_none_each_telling_is_refuted(self):
        rows = asked((10, 20), (10, 20)) + done((12, 18))
        for pairs in ([], pairs_of((0, 0)), pairs_of((1, 0)), pairs_of((0, 0), (1, 0))):
            self.assert_whole(PAIR, rows, pairs, False)

    def test_where_there_is_one_nothing_is_short(self):
        rows = asked((10, 20), (10, 30)) + done((12, 18), (15, 25))
        for count in range(3):
            for numbers in itertools.combinations(range(2), count):
                self.assert_short(PAIR, rows, "asks", asks(*numbers), False)
                self.assert_short(PAIR, rows, "jobs", jobs(*numbers), False)


class IsWhole(Judging):
    ROWS = asked((10, 20), (10, 30), (40, 50)) + done((12, 18), (15, 20), (44, 50))
    RIGHT = pairs_of((0, 0), (1, 1), (2, 2))

    def test_each_that_is_one(self):
        self.assert_whole(PAIR, self.ROWS, self.RIGHT, True)
        self.assert_whole(PAIR, self.ROWS, pairs_of((0, 1), (1, 0), (2, 2)), True)

    def test_a_pair_too_few(self):
        for at in range(3):
            self.assert_whole(PAIR, self.ROWS, self.RIGHT[:at] + self.RIGHT[at + 1:], False)
        self.assert_whole(PAIR, self.ROWS, [], False)

    def test_a_pair_too_many(self):
        # The ask, or the job, then stands there twice.
        for more in pairs_of((0, 1), (1, 0), (2, 1), (0, 2)):
            self.assert_whole(PAIR, self.ROWS, sorted(self.RIGHT + [more]), False)

    def test_an_ask_twice_or_a_job_twice_with_all_in_time(self):
        both = (("a", "b"), ("a", "b"))
        rows = asked((10, 20)) + done((12, 18), (12, 18))
        self.assert_whole(both, rows, pairs_of((0, 0)), True)
        self.assert_whole(both, rows, pairs_of((0, 0), (0, 1)), False)
        rows = asked((10, 20), (10, 20)) + [job(0, 12, 18, house="b")]
        self.assert_whole(both, rows, pairs_of((0, 0)), True)
        self.assert_whole(both, rows, pairs_of((1, 0)), True)
        self.assert_whole(both, rows, pairs_of((0, 0), (1, 0)), False)

    def test_a_pair_twice(self):
        for pair in self.RIGHT:
            self.assert_whole(PAIR, self.ROWS, sorted(self.RIGHT + [pair]), False)
        self.assert_whole(PAIR, self.ROWS, self.RIGHT * 2, False)

    def test_another_ask_or_another_job(self):
        self.assert_whole(PAIR, self.ROWS, pairs_of((0, 0), (1, 2), (2, 1)), False)
        self.assert_whole(PAIR, self.ROWS, pairs_of((0, 2), (1, 1), (2, 0)), False)
        self.assert_whole(PAIR, self.ROWS, pairs_of((0, 0), (1, 1)) + [(("a", 2), ("a", 0))], False)

    def test_one_that_there_was_not(self):
        for wrong in (pairs_of((3, 2)), pairs_of((2, 3)), pairs_of((-1, 2)), pairs_of((2, -1)), pairs_of((2, 10 ** 20)),
                      [(("b", 0), ("b", 2))], [(("z", 2), ("b", 2))], [(("a", 2), ("", 2))], [(("a", 2), ("B", 2))]):
            self.assert_whole(PAIR, self.ROWS, sorted(self.RIGHT[:2] + wrong), False)
            self.assert_whole(PAIR, self.ROWS, sorted(self.RIGHT + wrong), False)

    def test_one_that_there_was_not_where_none_must_stand(self):
        rows = [ask(0, 0, 10, 20), job(0, 12, 18, house="b")]
        both = (("a", "b"), ("a", "b"))
        self.assert_whole(both, rows, pairs_of((0, 0)), True)
        for wrong in ((0, 1), (1, 0), (1, 1), (-1, 0), (15, 0)):
            self.assert_whole(both, rows, pairs_of(wrong), False)

    def test_an_ask_and_a_job_turned(self):
        self.assert_whole(PAIR, self.ROWS, sorted((other, one) for one, other in self.RIGHT), False)

    def test_not_rising(self):
        for order in itertools.permutations(self.RIGHT):
            self.assert_whole(PAIR, self.ROWS, list(order), list(order) == self.RIGHT)

    def test_a_pair_barred_by_itself(self):
        rows = asked((10, 20), (10, 30)) + done((12, 18), (15, 25))
        self.assert_whole(PAIR, rows, pairs_of((0, 0), (1, 1)), True)
        self.assert_whole(PAIR, rows, pairs_of((0, 1), (1, 0)), False)

    def test_lost_ones_stand_there_too(self):
        town = (("a", "b"), ("b",))
        rows = [all_row(1, 1), all_row(1, 1, house="b")]
        self.assert_whole(town, rows, [(("a", 0), ("a", 0)), (("b", 0), ("b", 0))], True)
        self.assert_whole(town, rows, [(("a", 0), ("b", 0)), (("b", 0), ("a", 0))], True)
        self.assert_whole(town, rows, [(("a", 0), ("a", 0))], False)
        self.assert_whole(town, rows, [], False)

    def test_gates_and_open_houses(self):
        town = (("a", "b"), ("a",))
        rows = [job(0, 0, 90), job(0, 10, 20, house="b"), all_row(0, 1), all_row(1, 1, house="b")]
        self.assert_whole(town, rows, [(("b", 0), ("b", 0))], True)
        self.assert_whole(town, rows, [(("b", 0), ("a", 0))], False)
        self.assert_whole((("a", "b"), ("a", "b")), rows, [(("b", 0), ("a", 0))], True)
        self.assert_whole(town, rows[:3], [], True)

    def test_what_is_handed_in_stays_as_it_was(self):
        for pairs in (list(self.RIGHT), self.RIGHT[::-1], []):
            rows, before = list(self.ROWS), list(pairs)
            is_whole(PAIR, rows, pairs)
            self.assertEqual((rows, pairs), (self.ROWS, before))


class IsShort(Judging):
    FEW_JOBS = asked((10, 20), (10, 20), (10, 20), (40, 50)) + done((12, 18), (40, 41))
    FEW_ASKS = asked((10, 20), (40, 50)) + done((12, 18), (13, 18), (14, 18), (40, 41))

    def test_asks(self):
        for numbers in ((0, 1), (0, 2), (1, 2), (0, 1, 2), (0, 1, 2, 3)):
            self.assert_short(PAIR, self.FEW_JOBS, "asks", asks(*numbers), True)

    def test_jobs(self):
        for numbers in ((0, 1), (0, 2), (1, 2), (0, 1, 2), (0, 1, 2, 3)):
            self.assert_short(PAIR, self.FEW_ASKS, "jobs", jobs(*numbers), True)

    def test_one_too_few(self):
        for number in range(4):
            self.assert_short(PAIR, self.FEW_JOBS, "asks", asks(number), False)
            self.assert_short(PAIR, self.FEW_ASKS, "jobs", jobs(number), False)

    def test_one_more(self):
        # a.0 and a.1 are short by one; with a.3, which has a job of its own, too; not where it has two.
        self.assert_short(PAIR, self.FEW_JOBS, "asks", asks(0, 1, 3), True)
        self.assert_short(PAIR, self.FEW_ASKS, "jobs", jobs(0, 1, 3), True)
        rows = asked((10, 20), (10, 20), (40, 50)) + done((12, 18), (40, 41), (42, 43))
        self.assert_short(PAIR, rows, "asks", asks(0, 1), True)
        self.assert_short(PAIR, rows, "asks", asks(0, 1, 2), False)

    def test_none(self):
        for rows in (self.FEW_JOBS, self.FEW_ASKS, []):
            self.assert_short(PAIR, rows, "asks", [], False)
            self.assert_short(PAIR, rows, "jobs", [], False)

    def test_one_that_there_was_not(self):
        for wrong in (("a", 4), ("a", -1), ("a", 10 ** 20), ("c", 0), ("", 0), ("b", 0)):
            self.assert_short(PAIR, self.FEW_JOBS, "asks", sorted(asks(0, 1) + [wrong]), False)
            self.assert_short(PAIR, self.FEW_JOBS, "asks", [wrong], False)
        for wrong in (("b", 4), ("b", -1), ("b", 10 ** 20), ("c", 0), ("", 0), ("a", 1)):
            self.assert_short(PAIR, self.FEW_ASKS, "jobs", sorted(jobs(0, 1) + [wrong]), False)
            self.assert_short(PAIR, self.FEW_ASKS, "jobs", [wrong], False)

    def test_one_twice(self):
        self.assert_short(PAIR, self.FEW_JOBS, "asks", asks(0, 0), False)
        self.assert_short(PAIR, self.FEW_JOBS, "asks", asks(3, 3), False)
        self.assert_short(PAIR, self.FEW_JOBS, "asks", asks(0, 1, 1), False)
        self.assert_short(PAIR, self.FEW_ASKS, "jobs", jobs(0, 0), False)
        self.assert_short(PAIR, self.FEW_ASKS, "jobs", jobs(0, 0, 1), False)

    def test_not_rising(self):
        for order in itertools.permutations(range(3)):
            self.assert_short(PAIR, self.FEW_JOBS, "asks", asks(*order), order == (0, 1, 2))
            self.assert_short(PAIR, self.FEW_ASKS, "jobs", jobs(*order), order == (0, 1, 2))

    def test_the_other_side(self):
        self.assert_short(PAIR, self.FEW_JOBS, "jobs", asks(0, 1), False)
        self.assert_short(PAIR, self.FEW_JOBS, "jobs", jobs(0, 1), False)
        self.assert_short(PAIR, self.FEW_ASKS, "asks", jobs(0, 1), False)
        self.assert_short(PAIR, self.FEW_ASKS, "asks", asks(0, 1), False)

    def test_a_side_that_is_none(self):
        for side in ("", "ask", "whole"):
            self.assert_short(PAIR, self.FEW_JOBS, side, asks(0, 1), False)
            self.assert_short(PAIR, self.FEW_ASKS, side, jobs(0, 1), False)

    def test_a_gates_job(self):
        self.assert_short(PAIR, self.FEW_ASKS, "jobs", [("a", 0)], False)
        self.assert_short(PAIR, self.FEW_ASKS, "jobs", [("a", 0)] + jobs(0, 1), False)
        self.assert_short((("a", "b"), ()), self.FEW_ASKS, "jobs", [("a", 0)], True)
        self.assert_short((("a", "b"), ()), self.FEW_ASKS, "jobs", [("a", 0)] + jobs(0, 1), True)
        self.assert_short((("a", "b"), ("a", "b")), self.FEW_ASKS, "jobs", jobs(0, 1), False)

    def test_an_ask_that_may_have_led_to_more_jobs(self):
        rows = self.FEW_JOBS[:-1]
        self.assertEqual(rows + [all_row(0, 2, house="b")], self.FEW_JOBS)
        for numbers in ((0, 1), (0, 1, 2), (0, 1, 2, 3)):
            # b.1 began at 40: more jobs of b began behind the backs of a.0, a.1 and a.2, but not behind that of a.3.
            self.assert_short(PAIR, rows, "asks", asks(*numbers), 3 not in numbers)

    def test_a_lost_ask_that_may_have_led_to_more_jobs(self):
        town = (("a", "b", "c"), ("a",))
        rows = [all_row(2, 1), all_row(0, 0, house="b")]
        self.assert_short(town, rows, "asks", asks(0, 1), False)
        self.assert_short(town, rows + [all_row(0, 0, house="c")], "asks", asks(0, 1), True)

    def test_a_job_that_may_have_come_of_more_asks(self):
        town = (("a", "b", "c"), ("a",))
        late = [ask(0, 0, 14, 90, house="c", asked="c"), job(0, 0, 95, house="c")]
        self.assert_short(town, self.FEW_ASKS, "jobs", jobs(0, 1), False)
        self.assert_short(town, self.FEW_ASKS + late, "jobs", jobs(0, 1), True)
        self.assert_short(town, self.FEW_ASKS + late, "jobs", jobs(0, 1, 2), False)

    def test_jobs_of_gates_and_of_more_asks_count_for_asks(self):
        # What need not stand may: a gate's job is one to which an ask may have led.
        both = (("a", "b"), ("a", "b"))
        rows = asked((10, 20), (10, 20)) + done((12, 18), (12, 18))
        self.assert_short(both, rows, "asks", asks(0, 1), False)

    def test_some_that_are_not_the_told_ones(self):
        told = whole(PAIR, self.FEW_JOBS)
        others = [asks(0, 1), asks(0, 2), asks(1, 2), asks(0, 1, 2)]
        self.assertIn(told[2], others)
        for some in others:
            self.assert_short(PAIR, self.FEW_JOBS, "asks", some, True)

    def test_what_is_handed_in_stays_as_it_was(self):
        for some in (asks(0, 1), asks(1, 0), asks(0, 0), []):
            rows, before = list(self.FEW_JOBS), list(some)
            is_short(PAIR, rows, "asks", some)
            self.assertEqual((rows, some), (self.FEW_JOBS, before))


class Told(Judging):
    def test_told_lists_are_the_askers_own(self):
        for rows in (asked((10, 20)) + done((12, 18)), asked((10, 20)) + done(), asked() + done((12, 18))):
            first = whole(PAIR, rows)
            kept = list(first[-1])
            first[-1].clear()
            self.assertEqual(whole(PAIR, rows)[-1], kept)
            first[-1].append("more")
            self.assertEqual(whole(PAIR, rows)[-1], kept)

    def test_rows_stay_as_they_were(self):
        for rows in (asked((10, 20)) + done((12, 18)), asked((10, 20)) + done()):
            before = list(rows)
            whole(PAIR, rows)
            self.assertEqual(rows, before)

    def test_nothing_is_kept_of_rows_that_were_changed_since(self):
        rows = asked((10, 20)) + done((12, 18))
        told = whole(PAIR, rows)
        rows.clear()
        self.assertEqual(told, ("whole", pairs_of((0, 0))))
        self.assertEqual(whole(PAIR, rows), ("whole", []))
        rows += asked((10, 20)) + done()
        self.assertEqual(whole(PAIR, rows)[0], "short")


class AgainstReference(Judging):
    def small_books(self, seed, count):
        chance = random.Random(seed)
        while count:
            town, rows = some_book(chance, chance.randint(0, 12))
            reference = Reference(town, rows)
            if len(reference.asks) <= 4 and len(reference.jobs) <= 5:
                count -= 1
                yield town, rows, reference

    def test_a_whole_telling_or_what_is_short_and_never_both(self):
        words = []
        for town, rows, reference in self.small_books(12, 1000):
            told = self.assert_told(town, rows)
            words.append(told[:-1])
            self.assertEqual(told[0] == "whole", reference.whole_tellings() != [], (town, rows))
            self.assertEqual(told[0] == "short", reference.all_short() != [], (town, rows))
        for word in (("whole",), ("short", "asks"), ("short", "jobs")):
            self.assertGreater(words.count(word), 50)

    def test_is_whole_of_each_list_of_pairs(self):
        for town, rows, reference in self.small_books(13, 60):
            all_pairs = [(one, other) for one in reference.asks for other in reference.jobs]
            tellings = reference.whole_tellings()
            for count in range(4):
                for pairs in itertools.islice(itertools.combinations(all_pairs, count), 100):
                    self.assert_whole(town, rows, list(pairs), list(pairs) in tellings)
            for pairs in tellings[:100]:
                self.assert_whole(town, rows, pairs, True)

    def test_is_short_of_each_list(self):
        for town, rows, reference in self.small_books(14, 150):
            wanted = reference.all_short()
            for side, there in (("asks", reference.asks), ("jobs", reference.jobs)):
                for count in range(len(there) + 1):
                    for some in itertools.combinations(there, count):
                        self.assert_short(town, rows, side, list(some), (side, list(some)) in wanted)

    def test_what_really_was_is_a_whole_telling(self):
        chance = random.Random(15)
        for _ in range(150):
            town, rows, pairs = some_true_book(chance)
            self.assert_whole(town, rows, pairs, True)
            self.assertEqual(self.assert_told(town, rows)[0], "whole")


class LongBooks(Judging):
    def assert_soon(self, town, rows):
        start = time.monotonic()
        told = whole(town, rows)
        if told[0] == "whole":
            is_whole(town, rows, told[1])
        else:
            is_short(town, rows, *told[1:])
        self.assertLess(time.monotonic() - start, LITTLE_TIME)
        return self.assert_told(town, rows)

    def test_200_rows(self):
        # The first job of each house runs around all asks, so none led to it: there are fourteen jobs for fifteen asks.
        rows = ring_of_six(lambda k: 10, lambda k: 20, lambda k: 10 if k else 0, lambda k: 20 if k else 90)
        closed = rows + rows[:200 - len(rows)]
        self.assertEqual(len(closed), 200)
        self.assertEqual(self.assert_soon((SIX, SIX), closed)[0], "short")
        still_open = [row for row in closed if row[0] != "all"]
        still_open += still_open[:200 - len(still_open)]
        self.assertEqual(len(still_open), 200)
        self.assertEqual(self.assert_soon((SIX, SIX), still_open)[0], "whole")

    def test_fifteen_asks_and_jobs_of_six_houses_lost(self):
        rows = [all_row(15, 15, house=house) for house in SIX]
        told = self.assert_soon((SIX, ()), rows)
        self.assertEqual((told[0], len(told[1])), ("whole", 90))

    def test_one_job_too_few_of_ninety(self):
        rows = [all_row(15, 15, house=house) for house in SIX[:5]] + [all_row(15, 14, house="f")]
        told = self.assert_soon((SIX, ()), rows)
        self.assertEqual((told[:2], len(told[2])), (("short", "asks"), 90))

    def test_one_ask_too_few_of_ninety(self):
        rows = [all_row(15, 15, house=house) for house in SIX[:5]] + [all_row(14, 15, house="f")]
        told = self.assert_soon((SIX, ()), rows)
        self.assertEqual((told[:2], len(told[2])), (("short", "jobs"), 90))
        self.assertEqual(self.assert_soon((SIX, ("a",)), rows)[0], "whole")

    def test_known_asks_and_jobs_with_far_too_many_tellings(self):
        # The houses a, b and c ask d, e and f, which ask nothing.
        rows = []
        for house, other in zip("abc", "def"):
            rows += [job(0, 0, 99, house=house), all_row(15, 1, house=house), all_row(0, 15, house=other)]
            rows += [ask(number, 0, 10, 20, house=house, asked=other) for number in range(15)]
            rows += [job(number, 10, 20, house=other) for number in range(15)]
        told = self.assert_soon((SIX, ("a", "b", "c")), rows)
        self.assertEqual((told[0], len(told[1])), ("whole", 45))
        rows[rows.index(job(14, 10, 20, house="e"))] = job(14, 10, 21, house="e")
        self.assertEqual(self.assert_soon((SIX, ("a", "b", "c")), rows)[0], "short")

    def test_a_long_way_to_make_room(self):
        # Ask k may have led to jobs k and k + 1, the last ask to job 14 alone: so each led to its own.
        wide = [(10 * k, 10 * k + 18) for k in range(14)]
        rows = asked(*wide, (140, 148)) + done(*((10 * k + 1, 10 * k + 8) for k in range(15)))
        self.assertEqual(self.assert_soon(PAIR, rows), ("whole", pairs_of(*((k, k) for k in range(15)))))
        rows = asked(*wide, (150, 158)) + done(*((10 * k + 1, 10 * k + 8) for k in range(15)))
        self.assertEqual(self.assert_soon(PAIR, rows)[0], "short")

    def test_long_books_of_any_kind(self):
        chance = random.Random(16)
        for _ in range(12):
            town, rows = some_book(chance, 400, most_houses=6, most_number=14, most_time=10 ** 6)
            self.assert_soon(town, rows)


if __name__ == "__main__":
    unittest.main()

"""Points 2 and 10: whether by itself an ask may have led to a job, to more jobs, and a job come of more asks."""

import random
import unittest

from gapcalls.chances import may_lead, more_asks, more_jobs
from reference import Reference, some_book
from samples import MOST_TIME, TOWN, all_row, ask, job

A, B, C = ("a", 0), ("b", 0), ("c", 0)


def closed(*houses):
    return [all_row(5, 5, house=house) for house in houses]


class Judging(unittest.TestCase):
    """assertTrue would take 1 for True; what is told must be just a truth."""

    def assert_lead(self, rows, one, other, wanted, town=TOWN):
        self.assertIs(may_lead(town, rows, one, other), wanted, (rows, one, other))

    def assert_more_jobs(self, rows, one, wanted, town=TOWN):
        self.assertIs(more_jobs(town, rows, one), wanted, (rows, one))

    def assert_more_asks(self, rows, one, wanted, town=TOWN):
        self.assertIs(more_asks(town, rows, one), wanted, (rows, one))


class KnownToKnown(Judging):
    def test_out_is_not_above_begin(self):
        for begin, wanted in ((9, False), (10, True), (11, True), (20, True)):
            self.assert_lead([ask(0, 0, 10, 20), job(0, begin, 20, house="b")], A, B, wanted)

    def test_end_is_not_above_back(self):
        for end, wanted in ((10, True), (19, True), (20, True), (21, False)):
            self.assert_lead([ask(0, 0, 10, 20), job(0, 10, end, house="b")], A, B, wanted)

    def test_begin_and_end_both_outside(self):
        for begin, end in ((0, 5), (9, 21), (20, 21), (9, 9), (21, 21), (30, 40)):
            self.assert_lead([ask(0, 0, 10, 20), job(0, begin, end, house="b")], A, B, False)

    def test_all_at_one_time(self):
        self.assert_lead([ask(0, 0, 5, 5), job(0, 5, 5, house="b")], A, B, True)
        self.assert_lead([ask(0, 0, -MOST_TIME, MOST_TIME), job(0, -MOST_TIME, MOST_TIME, house="b")], A, B, True)

    def test_the_job_of_another_house(self):
        rows = [ask(0, 0, 10, 20), job(0, 12, 18, house="b"), job(0, 12, 18, house="c"), job(1, 12, 18)]
        self.assert_lead(rows, A, B, True)
        self.assert_lead(rows, A, C, False)
        self.assert_lead(rows, A, ("a", 1), False)

    def test_an_ask_of_itself(self):
        rows = [ask(0, 0, 10, 20, asked="a"), job(0, 5, 30), job(1, 12, 18)]
        self.assert_lead(rows, A, ("a", 1), True)
        self.assert_lead(rows, A, ("a", 0), False)

    def test_numbers_do_not_matter(self):
        rows = [ask(3, 2, 10, 20), job(7, 12, 18, house="b")]
        self.assert_lead(rows, ("a", 3), ("b", 7), True)

    def test_an_all_row_does_not_matter(self):
        rows = [ask(0, 0, 10, 20), job(0, 12, 18, house="b"), all_row(1, 1), all_row(0, 1, house="b")]
        self.assert_lead(rows, A, B, True)


class KnownToLost(Judging):
    def assert_span(self, low, high, wanted, more=()):
        """Of a job b.1 lost from low to high, and the ask a.0 of b from 10 to 20."""
        rows = [ask(0, 0, 10, 20), all_row(15, 3, house="b")] + list(more)
        rows += [] if low is None else [job(0, low, 90, house="b")]
        rows += [] if high is None else [job(2, high, 90, house="b")]
        self.assert_lead(rows, A, ("b", 1), wanted)

    def test_low_against_back(self):
        for low, wanted in ((0, True), (15, True), (19, True), (20, True), (21, False)):
            self.assert_span(low, None, wanted)
            self.assert_span(low, 30, wanted)

    def test_high_against_out(self):
        for high, wanted in ((8, False), (9, False), (10, True), (11, True), (30, True)):
            self.assert_span(None, high, wanted)
            self.assert_span(0, high, wanted)

    def test_the_span_within_and_around(self):
        for low, high in ((10, 20), (12, 12), (10, 10), (20, 20), (0, 90), (9, 10), (20, 21)):
            self.assert_span(low, high, True)
        for low, high in ((0, 9), (9, 9), (21, 21), (21, 90)):
            self.assert_span(low, high, False)

    def test_none_in_both_places(self):
        self.assert_span(None, None, True)

    def test_high_by_an_out_less_one(self):
        for out, wanted in ((10, False), (11, True), (12, True)):
            self.assert_span(None, None, wanted, [ask(0, 2, out, 90, house="b")])

    def test_last_is_below_back(self):
        for back, wanted in ((15, True), (19, True), (20, False), (21, False), (90, False)):
            self.assert_span(None, None, wanted, [ask(0, 1, 15, back, house="b")])
            self.assert_span(10, 14, wanted, [ask(0, 1, 15, back, house="b")])

    def test_last_of_another_job_bars_nothing(self):
        for number in (0, 2):
            self.assert_span(None, None, True, [ask(0, number, 15, 90, house="b")])

    def test_high_by_an_ask_of_its_own(self):
        # Ahead of its own ask the lost job began: at 9 or earlier it is not within a.0, at 10 it may be.
        self.assert_span(None, None, False, [ask(0, 1, 10, 12, house="b")])
        self.assert_span(None, None, True, [ask(0, 1, 11, 12, house="b")])

    def test_the_job_of_another_house(self):
        rows = [ask(0, 0, 10, 20), all_row(0, 1, house="b"), all_row(0, 1, house="c")]
        self.assert_lead(rows, A, B, True)
        self.assert_lead(rows, A, C, False)
        self.assert_lead(rows, A, A, False)

    def test_its_own_job_can_not_have_come_of_an_ask_of_itself(self):
        self.assert_lead([ask(0, 1, 10, 20, asked="a")], A, ("a", 1), False)
        self.assert_lead([ask(0, 1, 10, 20, asked="a")], A, ("a", 0), False)
        self.assert_lead([ask(0, 1, 10, 20, asked="a"), all_row(1, 3)], A, ("a", 2), True)


class LostToKnown(Judging):
    def test_low_is_not_above_begin(self):
        for begin, wanted in ((0, False), (9, False), (10, True), (11, True), (90, True)):
            rows = [ask(0, 0, 10, 20), all_row(2, 1), job(0, begin, 90, house="b")]
            self.assert_lead(rows, ("a", 1), B, wanted)

    def test_none_bars_nothing(self):
        rows = [all_row(1, 1), job(0, -MOST_TIME, 90, house="b")]
        self.assert_lead(rows, A, B, True)

    def test_high_bars_nothing(self):
        rows = [ask(1, 0, 10, 20), job(0, 50, 90, house="b"), job(0, 0, 1, house="c")]
        self.assert_lead(rows, A, B, True)
        self.assert_lead(rows, A, C, True)

    def test_a_job_of_any_house(self):
        rows = [ask(0, 0, 10, 20), all_row(2, 2), job(1, 10, 90), job(0, 10, 90, house="b"), job(0, 10, 90, house="c")]
        for one in (("a", 1), B, C):
            self.assert_lead(rows, ("a", 1), one, True)

    def test_the_end_bars_nothing(self):
        rows = [ask(0, 0, 10, 20), ask(2, 0, 12, 14), job(0, 10, 10, house="b"), job(1, 11, MOST_TIME, house="b")]
        self.assert_lead(rows, ("a", 1), B, True)
        self.assert_lead(rows, ("a", 1), ("b", 1), True)


class LostToLost(Judging):
    def test_low_is_not_above_high(self):
        for high, wanted in ((0, False), (9, False), (10, True), (11, True), (90, True)):
            rows = [ask(0, 0, 10, 20), all_row(2, 1), job(1, high, 90, house="b")]
            self.assert_lead(rows, ("a", 1), B, wanted)

    def test_high_by_an_out_less_one(self):
        for out, wanted in ((10, False), (11, True), (12, True)):
            rows = [ask(0, 0, 10, 20), all_row(2, 1), ask(0, 0, out, 90, house="b", asked="c")]
            self.assert_lead(rows, ("a", 1), B, wanted)

    def test_none_in_each_place(self):
        self.assert_lead([all_row(1, 1), job(1, -MOST_TIME, 0, house="b")], A, B, True)
        self.assert_lead([ask(0, 0, MOST_TIME, MOST_TIME), all_row(2, 1), all_row(0, 1, house="b")], ("a", 1), B, True)
        self.assert_lead([all_row(1, 1), all_row(0, 1, house="b")], A, B, True)

    def test_the_ask_s_high_and_the_job_s_low_and_last_bar_nothing(self):
        rows = [ask(1, 0, 10, 20), all_row(2, 1), job(0, 50, 90, house="b"), ask(0, 1, 60, 99, house="b"),
                all_row(1, 2, house="b")]
        self.assert_lead(rows, A, ("b", 1), True)

    def test_of_one_house(self):
        self.assert_lead([all_row(1, 1)], A, A, True)


class MoreJobs(Judging):
    def test_a_known_ask_of_an_open_house(self):
        for begin, wanted in ((0, True), (19, True), (20, True), (21, False), (90, False)):
            rows = [ask(0, 0, 10, 20), job(0, begin, 90, house="b")]
            self.assert_more_jobs(rows, A, wanted)
            self.assert_more_jobs(rows + closed("a", "c"), A, wanted)

    def test_by_the_greatest_begin(self):
        rows = [ask(0, 0, 10, 20), job(0, 5, 90, house="b"), job(3, 21, 30, house="b")]
        self.assert_more_jobs(rows, A, False)
        self.assert_more_jobs(rows[:2], A, True)

    def test_no_job_known(self):
        self.assert_more_jobs([ask(0, 0, 10, 20)], A, True)
        self.assert_more_jobs([ask(0, 0, -MOST_TIME, -MOST_TIME), ask(0, 0, 90, 90, house="b")], A, True)

    def test_a_house_that_is_not_open(self):
        rows = [ask(0, 0, 10, 20)]
        self.assert_more_jobs(rows + closed("b"), A, False)
        self.assert_more_jobs(rows + closed("b", "c"), A, False)
        self.assert_more_jobs(rows + closed("a", "b", "c"), A, False)

    def test_the_house_of_the_ask_may_be_open_or_not(self):
        self.assert_more_jobs([ask(0, 0, 10, 20)] + closed("a"), A, True)

    def test_an_ask_of_itself(self):
        self.assert_more_jobs([ask(0, 0, 10, 20, asked="a"), job(0, 5, 90)], A, True)
        self.assert_more_jobs([ask(0, 0, 10, 20, asked="a"), job(1, 21, 90)], A, False)
        self.assert_more_jobs([ask(0, 0, 10, 20, asked="a")] + closed("a"), A, False)

    def test_a_lost_ask_where_any_house_is_open(self):
        rows = [all_row(1, 0)]
        self.assert_more_jobs(rows, A, True)
        self.assert_more_jobs(rows + closed("b"), A, True)
        self.assert_more_jobs(rows + closed("c"), A, True)
        self.assert_more_jobs(rows + closed("b", "c"), A, False)

    def test_a_lost_ask_of_the_one_open_house(self):
        self.assert_more_jobs([ask(1, 0, 10, 20)] + closed("b", "c"), A, True)

    def test_times_bar_no_lost_ask(self):
        rows = [ask(1, 0, -90, -80), all_row(2, 1), job(0, 90, 90, house="b"), job(0, 90, 90, house="c")]
        self.assert_more_jobs(rows, A, True)

    def test_gates_do_not_matter(self):
        for gates in ((), ("a",), ("a", "b")):
            town = (("a", "b"), gates)
            self.assert_more_jobs([ask(0, 0, 10, 20)], A, True, town)
            self.assert_more_jobs([ask(0, 0, 10, 20), all_row(0, 0, house="b")], A, False, town)


class MoreAsks(Judging):
    def test_a_known_job_at_its_begin_or_ahead_of_it(self):
        for out, wanted in ((0, True), (9, True), (10, True), (11, False), (90, False)):
            rows = [job(0, 10, 20), ask(0, 0, out, 99, house="c")] + closed("a", "b")
            self.assert_more_asks(rows, A, wanted)

    def test_by_the_greatest_out(self):
        rows = [job(0, 10, 20), ask(0, 0, 5, 99, house="c"), ask(2, 0, 11, 99, house="c")] + closed("a", "b")
        self.assert_more_asks(rows, A, False)

    def test_an_open_house_of_which_no_ask_is_known(self):
        rows = [job(0, -MOST_TIME, 20), job(0, 90, 90, house="c")] + closed("a", "b")
        self.assert_more_asks(rows, A, True)

    def test_any_open_house_will_do(self):
        rows = [job(0, 10, 20), ask(0, 0, 11, 99, house="b"), ask(0, 0, 12, 99, house="c")] + closed("a")
        self.assert_more_asks(rows, A, False)
        for out in (9, 10):
            self.assert_more_asks([ask(0, 0, out, 99, house="b")] + rows[:1] + rows[2:], A, True)
            self.assert_more_asks([ask(0, 0, out, 99, house="c")] + rows[:2] + rows[3:], A, True)

    def test_the_jobs_own_house_the_only_open_one(self):
        rows = [job(0, 10, 20)] + closed("b", "c")
        self.assert_more_asks(rows, A, True)
        self.assert_more_asks(rows + [ask(0, 0, 11, 19)], A, False)
        self.assert_more_asks(rows + [job(3, 11, 20), ask(0, 0, 11, 19)], ("a", 3), True)

    def test_another_house_the_only_open_one(self):
        for house in ("b", "c"):
            others = [other for other in TOWN[0] if other != house]
            self.assert_more_asks([job(0, 10, 20)] + closed(*others), A, True)
            self.assert_more_asks([job(0, 10, 20), ask(0, 0, 11, 11, house=house)] + closed(*others), A, False)

    def test_no_open_house(self):
        self.assert_more_asks([job(0, 10, 20)] + closed("a", "b", "c"), A, False)
        self.assert_more_asks(closed("a", "b", "c"), A, False)

    def test_a_lost_job_at_its_high_or_ahead_of_it(self):
        for out, wanted in ((0, True), (9, True), (10, True), (11, False), (90, False)):
            rows = [job(1, 10, 20), ask(0, 0, out, 99, house="c")] + closed("a", "b")
            self.assert_more_asks(rows, A, wanted)

    def test_a_lost_job_with_high_by_an_out_less_one(self):
        for out, wanted in ((9, True), (10, True), (11, False)):
            rows = [ask(0, 0, 11, 20), ask(0, 0, out, 99, house="c")] + closed("a", "b")
            self.assert_more_asks(rows, A, wanted)

    def test_a_lost_job_without_high(self):
        rows = closed("a", "b") + [ask(0, 0, MOST_TIME, MOST_TIME, house="c")]
        self.assert_more_asks(rows, ("a", 4), True)
        self.assert_more_asks(rows + [job(0, 10, 20)], ("a", 4), True)

    def test_gates_do_not_matter(self):
        for gates in ((), ("a",), ("a", "b")):
            self.assert_more_asks([job(0, 10, 20)], A, True, (("a", "b"), gates))
            self.assert_more_asks([job(0, 10, 20)] + closed("a", "b"), A, False, (("a", "b"), gates))


class AgainstReference(Judging):
    def test_many_books(self):
        chance = random.Random(10)
        for _ in range(150):
            town, rows = some_book(chance, chance.randint(0, 14), most_houses=3, most_number=3, most_time=12)
            before = list(rows)
            wanted = Reference(town, rows)
            for one in wanted.asks:
                self.assert_more_jobs(rows, one, wanted.more_jobs(one), town)
                for other in wanted.jobs:
                    self.assert_lead(rows, one, other, wanted.may_lead(one, other), town)
            for other in wanted.jobs:
                self.assert_more_asks(rows, other, wanted.more_asks(other), town)
            self.assertEqual(rows, before)

    def test_rows_several_times_and_in_any_order(self):
        chance = random.Random(11)
        for _ in range(30):
            town, rows = some_book(chance, 12)
            wanted = Reference(town, rows)
            mixed = rows * 2
            chance.shuffle(mixed)
            for one in wanted.asks:
                for other in wanted.jobs:
                    self.assert_lead(mixed, one, other, wanted.may_lead(one, other), town)


if __name__ == "__main__":
    unittest.main()

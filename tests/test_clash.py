"""Points 6 and 7: which rows clash, and what is a book."""

import copy
import itertools
import unittest

from gapcalls.clash import do_clash, need_book
from gapcalls.errors import Clash, NoRow
from samples import ASK, JOB, ODD_THINGS, TOWN, all_row, ask, job


class Judging(unittest.TestCase):
    def assert_clash(self, one, other, wanted):
        self.assertIs(do_clash(one, other), wanted, (one, other))
        self.assertIs(do_clash(other, one), wanted, (other, one))

    def assert_book(self, rows):
        self.assertIsNone(need_book(TOWN, rows))

    def assert_no_row(self, rows, number):
        with self.assertRaises(NoRow) as caught:
            need_book(TOWN, rows)
        self.assertEqual(caught.exception.number, number, rows)

    def assert_clash_of(self, rows, first, second):
        with self.assertRaises(Clash) as caught:
            need_book(TOWN, rows)
        self.assertEqual((caught.exception.first, caught.exception.second), (first, second), rows)


class SameNumber(Judging):
    def test_like_rows_do_not_clash(self):
        for row in (ask(0, 0, 1, 2), job(0, 1, 2), job(0, 1, 1), all_row(0, 0), all_row(15, 15)):
            self.assert_clash(row, row, False)
            self.assert_clash(row, tuple(list(row)), False)

    def test_asks_of_one_number(self):
        row = ask(3, 2, 10, 20)
        for other in (ask(3, 1, 10, 20), ask(3, 2, 10, 20, asked="c"), ask(3, 2, 9, 20), ask(3, 2, 11, 20),
                      ask(3, 2, 10, 19), ask(3, 2, 10, 21)):
            self.assert_clash(row, other, True)

    def test_jobs_of_one_number(self):
        row = job(3, 10, 20)
        for other in (job(3, 9, 20), job(3, 11, 20), job(3, 10, 19), job(3, 10, 21)):
            self.assert_clash(row, other, True)

    def test_all_rows(self):
        row = all_row(3, 4)
        for other in (all_row(2, 4), all_row(4, 4), all_row(3, 3), all_row(3, 5), all_row(4, 3)):
            self.assert_clash(row, other, True)


class Order(Judging):
    def test_asks_go_out_in_the_order_of_their_numbers(self):
        self.assert_clash(ask(3, 0, 10, 50), ask(4, 0, 11, 50), False)
        self.assert_clash(ask(3, 0, 10, 50), ask(4, 0, 10, 50), False)
        self.assert_clash(ask(3, 0, 10, 50), ask(4, 0, 9, 50), True)
        self.assert_clash(ask(0, 0, 10, 50), ask(14, 0, 9, 50), True)

    def test_the_backs_of_asks_are_in_any_order(self):
        self.assert_clash(ask(3, 0, 10, 50), ask(4, 0, 10, 10), False)
        self.assert_clash(ask(3, 0, 10, 10), ask(4, 0, 10, 50), False)

    def test_the_jobs_of_asks_are_in_any_order(self):
        self.assert_clash(ask(3, 5, 10, 50), ask(4, 1, 10, 50), False)
        self.assert_clash(ask(3, 1, 10, 50), ask(4, 5, 10, 50), False)

    def test_jobs_begin_in_the_order_of_their_numbers(self):
        self.assert_clash(job(3, 10, 50), job(4, 11, 50), False)
        self.assert_clash(job(3, 10, 50), job(4, 10, 50), False)
        self.assert_clash(job(3, 10, 50), job(4, 9, 50), True)
        self.assert_clash(job(0, 10, 50), job(14, 9, 50), True)

    def test_the_ends_of_jobs_are_in_any_order(self):
        self.assert_clash(job(3, 10, 50), job(4, 10, 10), False)
        self.assert_clash(job(3, 10, 10), job(4, 10, 50), False)

    def test_times_below_0(self):
        self.assert_clash(job(0, -5, 0), job(1, -6, 0), True)
        self.assert_clash(job(0, -6, 0), job(1, -5, 0), False)


class JobAndAsk(Judging):
    def test_the_job_of_the_ask_begins_ahead_of_it(self):
        self.assert_clash(job(2, 9, 21), ask(0, 2, 10, 20), False)
        self.assert_clash(job(2, 10, 21), ask(0, 2, 10, 20), True)
        self.assert_clash(job(2, 11, 21), ask(0, 2, 10, 20), True)

    def test_the_job_of_the_ask_ends_behind_it(self):
        self.assert_clash(job(2, 5, 21), ask(0, 2, 10, 20), False)
        self.assert_clash(job(2, 5, 20), ask(0, 2, 10, 20), True)
        self.assert_clash(job(2, 5, 19), ask(0, 2, 10, 20), True)

    def test_a_job_of_lesser_number_begins_ahead_of_the_ask(self):
        for number in (0, 1):
            self.assert_clash(job(number, 9, 30), ask(0, 2, 10, 20), False)
            self.assert_clash(job(number, 10, 30), ask(0, 2, 10, 20), True)
            self.assert_clash(job(number, 11, 30), ask(0, 2, 10, 20), True)

    def test_a_job_of_lesser_number_ends_at_any_time(self):
        for end in (9, 10, 19, 20, 21):
            self.assert_clash(job(1, 9, end), ask(0, 2, 10, 20), False)

    def test_a_job_of_greater_number_is_at_any_time(self):
        for begin, end in ((0, 0), (9, 20), (10, 10), (10, 20), (11, 11), (30, 40)):
            self.assert_clash(job(3, begin, end), ask(0, 2, 10, 20), False)

    def test_the_number_of_the_ask_does_not_matter(self):
        for number in (0, 2, 14):
            self.assert_clash(job(2, 9, 21), ask(number, 2, 10, 20), False)
            self.assert_clash(job(2, 10, 21), ask(number, 2, 10, 20), True)

    def test_an_ask_of_the_own_house(self):
        self.assert_clash(job(2, 10, 21), ask(0, 2, 10, 20, asked="a"), True)
        self.assert_clash(job(2, 9, 21), ask(0, 2, 10, 20, asked="a"), False)


class AllRow(Judging):
    def test_the_number_of_an_ask_is_below_the_asks(self):
        self.assert_clash(all_row(4, 15), ask(3, 0, 1, 2), False)
        self.assert_clash(all_row(3, 15), ask(3, 0, 1, 2), True)
        self.assert_clash(all_row(2, 15), ask(3, 0, 1, 2), True)

    def test_the_job_of_an_ask_is_below_the_jobs(self):
        self.assert_clash(all_row(15, 4), ask(0, 3, 1, 2), False)
        self.assert_clash(all_row(15, 3), ask(0, 3, 1, 2), True)
        self.assert_clash(all_row(15, 2), ask(0, 3, 1, 2), True)

    def test_the_number_of_a_job_is_below_the_jobs(self):
        self.assert_clash(all_row(0, 4), job(3, 1, 2), False)
        self.assert_clash(all_row(15, 3), job(3, 1, 2), True)
        self.assert_clash(all_row(15, 2), job(3, 1, 2), True)

    def test_none_and_all(self):
        self.assert_clash(all_row(0, 0), job(0, 1, 2), True)
        self.assert_clash(all_row(0, 15), ask(0, 0, 1, 2), True)
        self.assert_clash(all_row(15, 15), ask(14, 14, 1, 2), False)
        self.assert_clash(all_row(15, 15), job(14, 1, 2), False)


class UnlikeHouses(Judging):
    def test_what_clashes_in_one_house_does_not_in_two(self):
        clashing = (
            (ask(3, 2, 10, 20), ask(3, 2, 11, 20, house="b")),
            (ask(3, 2, 10, 20), ask(4, 2, 9, 20, house="b")),
            (job(3, 10, 20), job(3, 11, 20, house="b")),
            (job(3, 10, 20), job(4, 9, 20, house="b")),
            (all_row(3, 4), all_row(4, 4, house="b")),
            (job(2, 10, 20), ask(0, 2, 10, 20, house="b", asked="a")),
            (all_row(0, 0), ask(0, 0, 1, 2, house="b", asked="a")),
            (all_row(0, 0), job(0, 1, 2, house="b")),
        )
        for one, other in clashing:
            self.assert_clash(one, other, False)
            self.assert_clash(one, (other[0], "a") + other[2:], True)


class Books(Judging):
    def test_no_rows(self):
        self.assert_book([])

    def test_an_ordinary_book(self):
        self.assert_book([job(0, 0, 100), ask(0, 0, 10, 20), job(0, 12, 18, house="b"), all_row(1, 1)])

    def test_a_row_several_times(self):
        self.assert_book([JOB, JOB])
        self.assert_book([JOB, ASK[:5] + (20, 30), JOB, JOB])

    def test_200_rows(self):
        self.assert_book([JOB] * 200)
        many = [job(number, number, 50, house=house) for house in TOWN[0] for number in range(15)]
        many += [ask(number, 14, 20 + number, 40, house=house) for house in TOWN[0] for number in range(15)]
        many += [all_row(15, 15, house=house) for house in TOWN[0]]
        rows = many + many + many[:200 - 2 * len(many)]
        self.assertEqual(len(rows), 200)
        self.assert_book(rows)
        self.assert_clash_of(rows[:-1] + [all_row(0, 0, house="c")], 30, 199)

    def test_some_more_than_200_rows(self):
        self.assert_book([JOB] * 210)

    def test_the_first_thing_that_is_no_row(self):
        self.assert_no_row([None], 0)
        self.assert_no_row([JOB, list(JOB)], 1)
        self.assert_no_row([JOB, JOB, (), None], 2)
        self.assert_no_row([JOB] * 199 + [job(15, 0, 1)], 199)

    def test_things_of_every_kind(self):
        for thing in ODD_THINGS:
            self.assert_no_row([JOB, thing, JOB], 1)

    def test_a_row_of_another_town_is_none(self):
        self.assert_no_row([JOB, job(0, 0, 1, house="d")], 1)

    def test_no_row_ahead_of_any_clash(self):
        self.assert_no_row([job(0, 0, 1), job(0, 0, 2), None], 2)
        self.assert_no_row([job(0, 0, 1), job(0, 0, 2), "job", None], 2)
        self.assert_no_row([None, job(0, 0, 1), job(0, 0, 2)], 0)

    def test_the_clash_of_two_rows(self):
        self.assert_clash_of([job(0, 0, 1), job(0, 0, 2)], 0, 1)
        self.assert_clash_of([all_row(1, 1, house="b"), job(0, 0, 1), job(0, 0, 1), job(0, 0, 2)], 1, 3)

    def test_second_the_least(self):
        # 0 clashes with 4, but 2 and 3 clash ahead of that.
        rows = [job(0, 0, 1), all_row(9, 9, house="b"), job(0, 0, 1, house="c"), job(0, 0, 2, house="c"), job(0, 0, 2)]
        self.assert_clash_of(rows, 2, 3)

    def test_first_the_least_with_it(self):
        # The last row clashes with 1 and 2, and no others clash.
        rows = [all_row(9, 9, house="b"), job(0, 5, 9), job(1, 6, 9), all_row(9, 0)]
        self.assert_clash_of(rows, 1, 3)

    def test_all_short_lists_of_some_rows(self):
        some = (job(0, 0, 9), job(1, 4, 9), job(1, 4, 8), ask(0, 1, 5, 8), all_row(1, 2), all_row(1, 1), JOB)
        for count in range(1, 5):
            for rows in itertools.product(some, repeat=count):
                pairs = [(second, first) for second in range(count) for first in range(second)
                         if do_clash(rows[first], rows[second])]
                if pairs:
                    self.assert_clash_of(list(rows), min(pairs)[1], min(pairs)[0])
                else:
                    self.assert_book(list(rows))

    def test_the_list_stays_as_it_was(self):
        for rows in ([], [JOB, JOB, ASK], [JOB, ["job", [0]], None], [job(0, 0, 1), job(0, 0, 2)]):
            before = copy.deepcopy(rows)
            try:
                need_book(TOWN, rows)
            except (NoRow, Clash):
                pass
            self.assertEqual(rows, before)

    def test_asked_again_the_same(self):
        clashing = [job(0, 0, 1), job(0, 0, 2)]
        for _ in range(3):
            self.assert_book([JOB])
            self.assert_clash_of(clashing, 0, 1)
            self.assert_no_row([JOB, None], 1)

    def test_nothing_is_kept_of_a_list_that_was_changed_since(self):
        rows = [job(0, 0, 1)]
        self.assert_book(rows)
        rows.append(job(0, 0, 2))
        self.assert_clash_of(rows, 0, 1)
        rows[1] = None
        self.assert_no_row(rows, 1)
        rows.clear()
        self.assert_book(rows)


if __name__ == "__main__":
    unittest.main()

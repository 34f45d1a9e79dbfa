"""Points 2, 8 and 9: known and lost asks and jobs, open houses, and from when to when they may have been."""

import copy
import random
import unittest

from gapcalls.gaps import (
    ask_span, job_span, known_asks, known_jobs, lost_asks, lost_jobs, more_from, open_houses)
from reference import Reference, some_book
from samples import MOST_TIME, TOWN, all_row, ask, job

LISTS = (known_asks, known_jobs, lost_asks, lost_jobs, open_houses)


def of_house(house, *numbers):
    return [(house, number) for number in numbers]


class Judging(unittest.TestCase):
    def assert_told(self, rows, asks=([], []), jobs=([], []), town=TOWN):
        """Known and lost asks, known and lost jobs."""
        self.assertEqual((known_asks(town, rows), lost_asks(town, rows)), asks, rows)
        self.assertEqual((known_jobs(town, rows), lost_jobs(town, rows)), jobs, rows)

    def assert_tuple(self, told, wanted):
        self.assertIs(type(told), tuple)
        self.assertEqual(told, wanted)
        for part in told:
            self.assertIn(type(part), (int, type(None)))


class KnownAndLost(Judging):
    def test_no_rows(self):
        self.assert_told([])
        self.assertEqual(open_houses(TOWN, []), ["a", "b", "c"])

    def test_known_are_those_of_rows(self):
        self.assert_told([ask(0, 0, 5, 6), job(0, 1, 9)], (of_house("a", 0), []), (of_house("a", 0), []))

    def test_an_all_row_of_counts_0(self):
        self.assert_told([all_row(0, 0)])
        self.assertEqual(open_houses(TOWN, [all_row(0, 0)]), ["b", "c"])

    def test_an_all_row_of_counts_above_what_is_known(self):
        rows = [all_row(4, 3), ask(1, 0, 5, 6), job(2, 7, 9)]
        self.assert_told(rows, (of_house("a", 1), of_house("a", 0, 2, 3)), (of_house("a", 2), of_house("a", 0, 1)))

    def test_an_all_row_and_nothing_known(self):
        self.assert_told([all_row(2, 1)], ([], of_house("a", 0, 1)), ([], of_house("a", 0)))
        self.assert_told([all_row(15, 15)], ([], of_house("a", *range(15))), ([], of_house("a", *range(15))))
        self.assert_told([all_row(0, 1)], jobs=([], of_house("a", 0)))
        self.assert_told([all_row(1, 0)], asks=([], of_house("a", 0)))

    def test_an_all_row_just_at_what_is_known(self):
        rows = [all_row(1, 2), ask(0, 0, 5, 6), job(0, 1, 9), job(1, 8, 9)]
        self.assert_told(rows, (of_house("a", 0), []), (of_house("a", 0, 1), []))

    def test_an_open_house_up_to_its_greatest_known_ask(self):
        self.assert_told([ask(3, 0, 5, 6), ask(1, 0, 4, 6)],
                         (of_house("a", 1, 3), of_house("a", 0, 2)), ([], of_house("a", 0)))
        self.assert_told([ask(14, 0, 5, 6)], (of_house("a", 14), of_house("a", *range(14))), ([], of_house("a", 0)))

    def test_an_open_house_up_to_its_greatest_known_job(self):
        self.assert_told([job(3, 5, 6)], jobs=(of_house("a", 3), of_house("a", 0, 1, 2)))
        rows = [job(3, 9, 10), ask(0, 1, 5, 6)]
        self.assert_told(rows, (of_house("a", 0), []), (of_house("a", 3), of_house("a", 0, 1, 2)))

    def test_an_open_house_up_to_the_job_of_a_known_ask(self):
        rows = [job(1, 2, 3), ask(0, 4, 5, 6)]
        self.assert_told(rows, (of_house("a", 0), []), (of_house("a", 1), of_house("a", 0, 2, 3, 4)))
        self.assert_told([ask(0, 14, 5, 6)], (of_house("a", 0), []), ([], of_house("a", *range(15))))

    def test_the_job_of_a_known_ask_of_a_house_with_an_all_row(self):
        rows = [ask(0, 1, 5, 6), all_row(1, 3)]
        self.assert_told(rows, (of_house("a", 0), []), ([], of_house("a", 0, 1, 2)))

    def test_a_house_that_was_asked_and_wrote_no_row(self):
        rows = [ask(0, 0, 5, 6, asked="c"), job(0, 1, 9)]
        self.assert_told(rows, (of_house("a", 0), []), (of_house("a", 0), []))
        self.assertIn("c", open_houses(TOWN, rows))

    def test_several_houses_rising(self):
        rows = [job(1, 5, 6, house="c"), job(1, 5, 6), all_row(2, 0, house="b"), ask(1, 0, 9, 9, house="c", asked="a")]
        self.assert_told(rows, (of_house("c", 1), of_house("b", 0, 1) + of_house("c", 0)),
                         (of_house("a", 1) + of_house("c", 1), of_house("a", 0) + of_house("c", 0)))

    def test_numbers_rise_as_numbers_and_houses_as_texts(self):
        town = (("a", "aa", "b"), ())
        rows = [all_row(0, 11, house=house) for house in ("b", "aa", "a")]
        self.assert_told(rows, jobs=([], [(house, number) for house in town[0] for number in range(11)]), town=town)

    def test_open_houses(self):
        rows = [all_row(0, 1, house="b"), job(0, 1, 2, house="b"), job(0, 1, 2)]
        self.assertEqual(open_houses(TOWN, rows), ["a", "c"])
        closed = [all_row(0, 0, house=house) for house in TOWN[0]]
        self.assertEqual(open_houses(TOWN, closed), [])
        self.assertEqual(open_houses(TOWN, closed[:1]), ["b", "c"])
        self.assertEqual(open_houses(TOWN, closed[:2]), ["c"])

    def test_gates_are_open_or_not_as_others(self):
        for gates in ((), ("a",), ("a", "b")):
            self.assertEqual(open_houses((("a", "b"), gates), [all_row(0, 0)]), ["b"])

    def test_rows_several_times_and_in_any_order(self):
        rows = [all_row(3, 3), ask(1, 1, 5, 6), job(1, 4, 9), job(2, 0, 10, house="b"), ask(0, 2, 7, 9, house="b")]
        wanted = [tell(TOWN, rows) for tell in LISTS]
        for chance in range(20):
            mixed = rows * 3
            random.Random(chance).shuffle(mixed)
            self.assertEqual([tell(TOWN, mixed) for tell in LISTS], wanted)
            self.assertEqual(job_span(TOWN, mixed, ("a", 2)), job_span(TOWN, rows, ("a", 2)))
            self.assertEqual(ask_span(TOWN, mixed, ("a", 0)), ask_span(TOWN, rows, ("a", 0)))
            self.assertEqual(more_from(TOWN, mixed, "b"), more_from(TOWN, rows, "b"))


class Told(Judging):
    ROWS = [all_row(3, 3), ask(1, 1, 5, 6), job(1, 4, 9), job(2, 0, 10, house="b"), ask(0, 2, 7, 9, house="b")]

    def test_lists_of_tuples_of_a_text_and_a_number(self):
        for tell in (known_asks, known_jobs, lost_asks, lost_jobs):
            told = tell(TOWN, self.ROWS)
            self.assertIs(type(told), list)
            self.assertTrue(told)
            for one in told:
                self.assertEqual((type(one), type(one[0]), type(one[1]), len(one)), (tuple, str, int, 2))
        self.assertIs(type(open_houses(TOWN, self.ROWS)), list)

    def test_told_lists_are_the_askers_own(self):
        for rows in ([], self.ROWS):
            for tell in LISTS:
                told = tell(TOWN, rows)
                wanted = list(told)
                told.append("more")
                told.reverse()
                self.assertEqual(tell(TOWN, rows), wanted)
                told.clear()
                self.assertEqual(tell(TOWN, rows), wanted)

    def test_rows_stay_as_they_were(self):
        rows = list(self.ROWS)
        for tell in LISTS:
            tell(TOWN, rows)
        ask_span(TOWN, rows, ("a", 0))
        job_span(TOWN, rows, ("a", 0))
        more_from(TOWN, rows, "b")
        self.assertEqual(rows, self.ROWS)

    def test_nothing_is_kept_of_rows_that_were_changed_since(self):
        rows = copy.copy(self.ROWS)
        told = known_jobs(TOWN, rows)
        rows.clear()
        self.assertEqual(told, [("a", 1), ("b", 2)])
        for tell in (known_asks, known_jobs, lost_asks, lost_jobs):
            self.assertEqual(tell(TOWN, rows), [])
        rows.append(job(0, 1, 2))
        self.assertEqual(known_jobs(TOWN, rows), [("a", 0)])


class AskSpans(Judging):
    def test_ahead_of_between_and_behind_known_ones(self):
        rows = [ask(1, 0, 10, 50), ask(3, 0, 20, 50), all_row(6, 1)]
        self.assert_tuple(ask_span(TOWN, rows, ("a", 0)), (None, 10))
        self.assert_tuple(ask_span(TOWN, rows, ("a", 2)), (10, 20))
        self.assert_tuple(ask_span(TOWN, rows, ("a", 4)), (20, None))
        self.assert_tuple(ask_span(TOWN, rows, ("a", 5)), (20, None))

    def test_none_known(self):
        self.assert_tuple(ask_span(TOWN, [all_row(2, 0)], ("a", 1)), (None, None))

    def test_the_nearest_ones_on_each_side(self):
        rows = [ask(0, 0, 1, 50), ask(1, 0, 2, 50), ask(3, 0, 8, 50), ask(4, 0, 9, 50)]
        self.assert_tuple(ask_span(TOWN, rows, ("a", 2)), (2, 8))

    def test_like_times(self):
        self.assert_tuple(ask_span(TOWN, [ask(0, 0, 5, 50), ask(2, 0, 5, 50)], ("a", 1)), (5, 5))

    def test_backs_jobs_and_other_houses_say_nothing(self):
        rows = [ask(1, 1, 10, 15), job(0, 1, 2), job(1, 8, 60), all_row(2, 2),
                ask(0, 0, 3, 4, house="c"), ask(2, 0, 5, 6, house="c")]
        self.assert_tuple(ask_span(TOWN, rows, ("a", 0)), (None, 10))
        self.assert_tuple(ask_span(TOWN, rows, ("c", 1)), (3, 5))

    def test_least_and_greatest_times(self):
        rows = [ask(0, 0, -MOST_TIME, 0), ask(2, 0, MOST_TIME, MOST_TIME)]
        self.assert_tuple(ask_span(TOWN, rows, ("a", 1)), (-MOST_TIME, MOST_TIME))


class JobSpans(Judging):
    def test_ahead_of_between_and_behind_known_ones(self):
        rows = [job(1, 10, 50), job(3, 20, 25), all_row(0, 6)]
        self.assert_tuple(job_span(TOWN, rows, ("a", 0)), (None, 10, None))
        self.assert_tuple(job_span(TOWN, rows, ("a", 2)), (10, 20, None))
        self.assert_tuple(job_span(TOWN, rows, ("a", 4)), (20, None, None))
        self.assert_tuple(job_span(TOWN, rows, ("a", 5)), (20, None, None))

    def test_none_known(self):
        self.assert_tuple(job_span(TOWN, [all_row(0, 2)], ("a", 1)), (None, None, None))

    def test_an_ask_of_its_own_number(self):
        self.assert_tuple(job_span(TOWN, [ask(0, 2, 10, 20)], ("a", 2)), (None, 9, 20))

    def test_an_ask_of_a_greater_number(self):
        for number in (0, 1):
            self.assert_tuple(job_span(TOWN, [ask(0, 2, 10, 20)], ("a", number)), (None, 9, None))

    def test_an_ask_of_a_lesser_number(self):
        rows = [ask(0, 2, 10, 20), all_row(1, 5)]
        for number in (3, 4):
            self.assert_tuple(job_span(TOWN, rows, ("a", number)), (None, None, None))

    def test_high_by_a_begin_or_by_an_out_less_one(self):
        for begin, out, high in ((10, 10, 9), (10, 11, 10), (10, 12, 10), (10, 30, 10), (30, 10, 9)):
            rows = [job(3, begin, 90), ask(0, 2, out, 40)]
            self.assert_tuple(job_span(TOWN, rows, ("a", 2)), (None, high, 40))
            self.assert_tuple(job_span(TOWN, rows, ("a", 1)), (None, high, None))

    def test_high_by_the_least_of_several(self):
        rows = [job(3, 30, 90), job(4, 40, 90), ask(0, 2, 10, 40), ask(1, 1, 20, 40), ask(2, 5, 60, 70)]
        self.assert_tuple(job_span(TOWN, rows, ("a", 0)), (None, 9, None))
        self.assert_tuple(job_span(TOWN, rows, ("a", 2)), (None, 9, 40))
        self.assert_tuple(job_span(TOWN, rows, ("a", 5)), (40, 59, 70))

    def test_low_by_the_greatest_of_several(self):
        rows = [job(0, 1, 90), job(1, 2, 3), all_row(0, 3)]
        self.assert_tuple(job_span(TOWN, rows, ("a", 2)), (2, None, None))

    def test_last_of_several_asks(self):
        rows = [ask(0, 1, 10, 30), ask(1, 1, 11, 70), ask(2, 1, 12, 20), ask(3, 0, 13, 99), ask(4, 2, 14, 98)]
        self.assert_tuple(job_span(TOWN, rows, ("a", 1)), (None, 9, 70))
        self.assert_tuple(job_span(TOWN, rows, ("a", 0)), (None, 9, 99))
        self.assert_tuple(job_span(TOWN, rows, ("a", 2)), (None, 13, 98))

    def test_low_and_high_at_one_time(self):
        rows = [job(0, 9, 90), ask(0, 1, 10, 20)]
        self.assert_tuple(job_span(TOWN, rows, ("a", 1)), (9, 9, 20))

    def test_none_in_each_place(self):
        self.assert_tuple(job_span(TOWN, [job(0, 5, 6), ask(0, 1, 10, 20)], ("a", 1)), (5, 9, 20))
        self.assert_tuple(job_span(TOWN, [ask(0, 1, 10, 20)], ("a", 1)), (None, 9, 20))
        self.assert_tuple(job_span(TOWN, [job(0, 5, 6), all_row(0, 2)], ("a", 1)), (5, None, None))
        self.assert_tuple(job_span(TOWN, [job(0, 5, 6), job(2, 7, 8)], ("a", 1)), (5, 7, None))

    def test_asks_made_of_the_house_say_nothing(self):
        rows = [ask(0, 0, 10, 20, house="c", asked="a"), job(1, 30, 40), all_row(0, 3)]
        self.assert_tuple(job_span(TOWN, rows, ("a", 0)), (None, 30, None))
        self.assert_tuple(job_span(TOWN, rows, ("a", 2)), (30, None, None))

    def test_an_ask_of_itself_is_an_ask_as_any(self):
        self.assert_tuple(job_span(TOWN, [ask(0, 2, 10, 20, asked="a")], ("a", 2)), (None, 9, 20))

    def test_the_least_time_less_one(self):
        rows = [ask(0, 0, -MOST_TIME, MOST_TIME)]
        self.assert_tuple(job_span(TOWN, rows, ("a", 0)), (None, -MOST_TIME - 1, MOST_TIME))


class MoreFrom(Judging):
    def test_neither(self):
        self.assert_tuple(more_from(TOWN, [], "a"), (None, None))
        self.assert_tuple(more_from(TOWN, [job(0, 1, 2, house="b"), ask(0, 0, 5, 6, house="c")], "a"), (None, None))

    def test_asks_alone(self):
        self.assert_tuple(more_from(TOWN, [ask(0, 0, 5, 60), ask(2, 0, 7, 8)], "a"), (7, None))

    def test_jobs_alone(self):
        self.assert_tuple(more_from(TOWN, [job(0, 5, 60), job(2, 7, 8)], "a"), (None, 7))

    def test_both(self):
        self.assert_tuple(more_from(TOWN, [job(0, 5, 60), ask(1, 0, 9, 10), ask(0, 0, 8, 30)], "a"), (9, 5))

    def test_what_was_asked_of_it_says_nothing(self):
        self.assert_tuple(more_from(TOWN, [ask(0, 0, 5, 6, house="c", asked="a")], "a"), (None, None))


class AgainstReference(Judging):
    def test_many_books(self):
        chance = random.Random(8)
        for _ in range(400):
            town, rows = some_book(chance, chance.randint(0, 25), most_houses=4, most_number=5, most_time=20)
            wanted = Reference(town, rows)
            self.assert_told(rows, (wanted.known_asks, wanted.lost_asks), (wanted.known_jobs, wanted.lost_jobs), town)
            self.assertEqual(open_houses(town, rows), wanted.open_houses)
            for one in wanted.lost_asks:
                self.assertEqual(ask_span(town, rows, one), wanted.ask_span(one), (rows, one))
            for one in wanted.lost_jobs:
                self.assertEqual(job_span(town, rows, one), wanted.job_span(one), (rows, one))
            for house in wanted.open_houses:
                self.assertEqual(more_from(town, rows, house), wanted.more_from(house), (rows, house))


if __name__ == "__main__":
    unittest.main()

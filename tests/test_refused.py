"""Point 7: whatever is told of a town and a list of rows is refused with NoRow, then with Clash."""

import unittest

from gapcalls.chances import may_lead, more_asks, more_jobs
from gapcalls.clash import need_book
from gapcalls.clocks import greatest, in_time, is_ring, shifts
from gapcalls.errors import Clash, NoAsk, NoJob, NoRow
from gapcalls.gaps import (
    ask_span, job_span, known_asks, known_jobs, lost_asks, lost_jobs, more_from, open_houses)
from gapcalls.questions import are_bars, is_plan, questions
from gapcalls.standing import is_standing, may, must, standing
from gapcalls.tellings import how_many, is_telling, tellings
from gapcalls.texts import show_book
from gapcalls.trees import above, all_above, forest, stands_above, under
from gapcalls.whole import is_short, is_whole, whole
from samples import JOB, ODD_THINGS, TOWN, all_row, ask, job

# Each function that is told a town and rows, and what it is told besides: of what there was in GOOD.
TOLD = (
    (need_book, ()),
    (known_asks, ()), (known_jobs, ()), (lost_asks, ()), (lost_jobs, ()), (open_houses, ()),
    (ask_span, (("a", 0),)), (job_span, (("a", 0),)), (more_from, ("a",)),
    (may_lead, (("a", 0), ("a", 0))), (more_jobs, (("a", 0),)), (more_asks, (("a", 0),)),
    (whole, ()), (is_whole, ([],)), (is_whole, ([(("a", 0), ("a", 0))],)),
    (is_short, ("asks", [])), (is_short, ("jobs", [])), (is_short, ("asks", [("a", 0)])),
    (must, ()), (may, ()),
    (how_many, ()), (how_many, (1,)), (tellings, ()), (tellings, (1,)), (is_telling, ([],)),
    (questions, ()), (is_plan, (("sure", []),)), (are_bars, (0, [])),
    (above, ([], ("a", 1))), (all_above, ([], ("a", 1))), (under, ([], ("a", 1))), (forest, ([],)),
    (stands_above, (("a", 1), ("a", 1))),
    (in_time, ([], {"a": 0, "b": 0, "c": 0})), (in_time, ([], {})), (is_ring, ([], [])), (shifts, ([],)),
    (greatest, ([], "a", "b")), (greatest, ([], "a", "a")),
    (show_book, ()),
)

# Those that would go on to refuse an ask or a job that is not known: NoRow and Clash go ahead.
REFUSED_LATER = (
    (standing, (("a", 9), ("a", 9))), (is_standing, (("a", 9), ("a", 9), ("never", None, None))),
    (stands_above, (("a", 9), ("a", 9))),
)

GOOD = [ask(1, 1, 50, 60)]


class Refused(unittest.TestCase):
    def assert_no_row(self, rows, number):
        for tell, more in TOLD + REFUSED_LATER:
            with self.subTest(tell=tell.__name__, rows=rows):
                with self.assertRaises(NoRow) as caught:
                    tell(TOWN, rows, *more)
                self.assertEqual(caught.exception.number, number)

    def assert_clash(self, rows, first, second):
        for tell, more in TOLD + REFUSED_LATER:
            with self.subTest(tell=tell.__name__, rows=rows):
                with self.assertRaises(Clash) as caught:
                    tell(TOWN, rows, *more)
                self.assertEqual((caught.exception.first, caught.exception.second), (first, second))

    def test_a_book_is_not_refused(self):
        for rows in (GOOD, GOOD * 3, GOOD * 200, GOOD + [all_row(2, 2, house="b")]):
            for tell, more in TOLD:
                tell(TOWN, rows, *more)

    def test_a_book_is_not_refused_so_where_more_is(self):
        for rows in (GOOD, GOOD * 3):
            for tell, more in REFUSED_LATER:
                with self.assertRaises((NoAsk, NoJob)):
                    tell(TOWN, rows, *more)

    def test_no_row_and_clash_ahead_of_short(self):
        none = [ask(0, 0, 10, 20), all_row(1, 1), all_row(0, 0, house="b"), all_row(0, 0, house="c")]
        self.assertEqual(whole(TOWN, none)[0], "short")
        self.assert_no_row(none + [None], 4)
        self.assert_clash(none + [all_row(1, 2)], 1, 4)

    def test_the_first_that_is_no_row(self):
        self.assert_no_row([None], 0)
        self.assert_no_row(GOOD + [list(JOB)], 1)
        self.assert_no_row(GOOD + [JOB[:4] + (True,), None], 1)
        self.assert_no_row(GOOD * 199 + [job(15, 0, 1)], 199)

    def test_things_of_every_kind(self):
        for thing in ODD_THINGS:
            self.assert_no_row(GOOD + [thing] + GOOD, 1)

    def test_a_row_of_another_town(self):
        self.assert_no_row(GOOD + GOOD + [job(0, 0, 1, house="d")], 2)
        self.assert_no_row([ask(0, 0, 5, 6, asked="d")], 0)

    def test_no_row_ahead_of_any_clash(self):
        self.assert_no_row([job(0, 0, 1), job(0, 0, 2), None], 2)
        self.assert_no_row([None, job(0, 0, 1), job(0, 0, 2), ()], 0)

    def test_second_the_least_and_first_the_least_with_it(self):
        self.assert_clash([job(0, 0, 1), job(0, 0, 2)], 0, 1)
        self.assert_clash([all_row(9, 9, house="b"), job(0, 5, 9), job(1, 6, 9), all_row(9, 0)], 1, 3)
        self.assert_clash([job(0, 0, 1), job(0, 0, 1, house="c"), job(0, 0, 2, house="c"), job(0, 0, 2)], 1, 2)

    def test_each_sort_of_clash(self):
        self.assert_clash(GOOD + [ask(1, 1, 50, 61)], 0, 1)
        self.assert_clash(GOOD + [ask(0, 1, 51, 52)], 0, 1)
        self.assert_clash(GOOD + [job(1, 50, 90)], 0, 1)
        self.assert_clash(GOOD + [job(1, 40, 60)], 0, 1)
        self.assert_clash(GOOD + [job(0, 50, 90)], 0, 1)
        self.assert_clash(GOOD + [all_row(1, 2)], 0, 1)
        self.assert_clash(GOOD + [all_row(2, 1)], 0, 1)
        self.assert_clash(GOOD + [all_row(2, 2), all_row(2, 3)], 1, 2)

    def test_what_is_refused_changes_nothing(self):
        for rows in ([job(0, 0, 1), job(0, 0, 2)], GOOD + [["job", [0]], None]):
            before = [list(row) if isinstance(row, list) else row for row in rows]
            for tell, more in TOLD + REFUSED_LATER:
                with self.assertRaises((NoRow, Clash)):
                    tell(TOWN, rows, *more)
                self.assertEqual(rows, before)


if __name__ == "__main__":
    unittest.main()

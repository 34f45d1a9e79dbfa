"""Points 2, 4 and 5: what is a town, and what is a row of it."""

import unittest

from gapcalls.rows import is_row, is_town
from samples import (
    ALL, ASK, JOB, MOST_TIME, ODD_THINGS, TOWN, all_row, ask, job, with_part, with_some_parts)

LETTERS = "abcdefghijklmnopqrstuvwxyz"


class Judging(unittest.TestCase):
    """assertTrue would take 1 for True; what is told must be just a truth."""

    def assert_town(self, thing, wanted):
        self.assertIs(is_town(thing), wanted, thing)

    def assert_row(self, thing, wanted, town=TOWN):
        self.assertIs(is_row(town, thing), wanted, thing)


class Towns(Judging):
    def test_ordinary_towns(self):
        self.assert_town((("a",), ()), True)
        self.assert_town((("a", "b"), ("a",)), True)
        self.assert_town((("bakery", "mill", "shop"), ("mill", "shop")), True)

    def test_one_to_six_houses(self):
        for count in range(0, 9):
            self.assert_town((tuple("abcdefghi"[:count]), ()), 1 <= count <= 6)

    def test_seven_houses_with_gates(self):
        self.assert_town((tuple("abcdef"), tuple("abcdef")), True)
        self.assert_town((tuple("abcdefg"), tuple("abcdefg")), False)

    def test_one_to_eight_letters(self):
        for count in range(0, 12):
            self.assert_town((("z" * count,), ()), 1 <= count <= 8)
            self.assert_town((("a", "z" * count), ("a",)), 1 <= count <= 8)

    def test_every_small_letter(self):
        for sign in LETTERS:
            self.assert_town(((sign,), (sign,)), True)

    def test_no_other_sign(self):
        others = [chr(code) for code in range(32, 127) if chr(code) not in LETTERS]
        for sign in others + ["\t", "\n"]:
            for house in (sign, "a" + sign, sign + "a", "a" + sign + "a"):
                self.assert_town(((house,), ()), False)

    def test_a_wrong_house_at_any_place(self):
        for at in range(3):
            for wrong in ("", "A", "abcdefghi", None, True, 0, ("b",), ["b"], ()):
                self.assert_town((with_part(("a", "b", "c"), at, wrong), ()), False)

    def test_houses_rising_and_unlike(self):
        for houses in (("b", "a"), ("a", "a"), ("a", "c", "b"), ("b", "a", "c"), ("a", "b", "b"), ("ab", "a")):
            self.assert_town((houses, ()), False)

    def test_rising_as_python_sorts_texts(self):
        self.assert_town((("a", "aa", "ab", "b", "ba"), ()), True)
        self.assert_town((("b", "aa"), ()), False)

    def test_gates_none_some_all(self):
        for gates in ((), ("a",), ("b",), ("c",), ("a", "b"), ("a", "c"), ("b", "c"), ("a", "b", "c")):
            self.assert_town((("a", "b", "c"), gates), True)

    def test_gates_rising_and_unlike(self):
        for gates in (("b", "a"), ("a", "a"), ("a", "c", "b"), ("a", "b", "b"), ("c", "b", "a")):
            self.assert_town((("a", "b", "c"), gates), False)

    def test_a_gate_that_is_no_house_of_the_town(self):
        for gates in (("d",), ("a", "d"), ("aa",), ("a", "aa"), ("",), ("A",), (None,), (("a",),), (0,)):
            self.assert_town((("a", "b", "c"), gates), False)

    def test_lists_in_the_place_of_tuples(self):
        self.assert_town([("a", "b"), ("a",)], False)
        self.assert_town((["a", "b"], ("a",)), False)
        self.assert_town((("a", "b"), ["a"]), False)
        self.assert_town((("a", "b"), []), False)

    def test_a_text_in_the_place_of_a_tuple(self):
        self.assert_town(("ab", ()), False)
        self.assert_town((("a", "b"), "a"), False)
        self.assert_town((("a", "b"), ""), False)
        self.assert_town("ab", False)

    def test_a_part_more_or_fewer(self):
        for thing in ((), (("a",),), (("a",), (), ()), (("a",), ("a",), None), (("a",), (), "a", "a")):
            self.assert_town(thing, False)

    def test_things_of_other_kinds(self):
        for thing in ODD_THINGS:
            self.assert_town(thing, False)
            self.assert_town((thing, ()), thing in (("a",), ("a", "b"), ("ask",), ("job",), ("all",)))
            self.assert_town((("a", "b"), thing), thing in ((), ("a",), ("a", "b")))

    def test_rows_are_no_towns(self):
        for row in (ASK, JOB, ALL):
            self.assert_town(row, False)


class Rows(Judging):
    def test_each_of_the_three_sorts(self):
        for row in (ASK, JOB, ALL):
            self.assert_row(row, True)

    def test_numbers_from_0_to_14(self):
        for number in (-10 ** 5000, -15, -2, -1, 0, 1, 7, 13, 14, 15, 16, 100, 10 ** 5000):
            wanted = 0 <= number <= 14
            self.assert_row(ask(number, 0, 1, 2), wanted)
            self.assert_row(ask(0, number, 1, 2), wanted)
            self.assert_row(job(number, 1, 2), wanted)

    def test_counts_from_0_to_15(self):
        for count in (-10 ** 5000, -15, -2, -1, 0, 1, 8, 14, 15, 16, 17, 100, 10 ** 5000):
            wanted = 0 <= count <= 15
            self.assert_row(all_row(count, 0), wanted)
            self.assert_row(all_row(0, count), wanted)

    def test_least_and_greatest_times(self):
        low, high = -MOST_TIME, MOST_TIME
        for first, last in ((low, high), (low, low), (high, high), (low, 0), (0, high)):
            self.assert_row(ask(0, 0, first, last), True)
            self.assert_row(job(0, first, last), True)

    def test_times_just_beyond(self):
        low, high = -MOST_TIME, MOST_TIME
        for first, last in ((low - 1, high), (low, high + 1), (low - 1, low - 1), (high + 1, high + 1),
                            (-10 ** 5000, 0), (0, 10 ** 5000)):
            self.assert_row(ask(0, 0, first, last), False)
            self.assert_row(job(0, first, last), False)

    def test_the_first_time_is_not_above_the_last(self):
        for first, last in ((5, 5), (5, 6), (6, 5), (0, 0), (0, -1), (-1, 0), (-5, -6), (-6, -5)):
            self.assert_row(ask(0, 0, first, last), first <= last)
            self.assert_row(job(0, first, last), first <= last)

    def test_a_truth_is_no_number(self):
        for truth in (True, False):
            for row, first in ((ask(0, 0, 0, 1), 2), (job(0, 0, 1), 2), (all_row(1, 1), 2)):
                for at in range(first, len(row)):
                    self.assert_row(with_part(row, at, truth), False)

    def test_a_house_that_the_town_has_not(self):
        for house in ("d", "aa", "", "A", "ask", "ab"):
            self.assert_row(with_part(ASK, 1, house), False)
            self.assert_row(with_part(ASK, 4, house), False)
            self.assert_row(with_part(JOB, 1, house), False)
            self.assert_row(with_part(ALL, 1, house), False)

    def test_every_house_of_the_town(self):
        for house in TOWN[0]:
            self.assert_row(job(0, 1, 2, house=house), True)
            self.assert_row(all_row(0, 0, house=house), True)
            for asked in TOWN[0]:
                self.assert_row(ask(0, 0, 1, 2, house=house, asked=asked), True)

    def test_another_town_other_rows(self):
        other = (("b", "d"), ())
        self.assert_row(ASK, False, other)
        self.assert_row(JOB, False, other)
        self.assert_row(job(0, 1, 2, house="d"), True, other)
        self.assert_row(ask(0, 0, 1, 2, house="d", asked="b"), True, other)

    def test_an_ask_of_itself_in_a_town_of_one_house(self):
        self.assert_row(ask(0, 0, 1, 2, asked="a"), True, (("a",), ()))

    def test_another_word(self):
        for word in ("", "asks", "Ask", "ASK", "ask ", " job", "jobs", "al", "alls", "a", "row", None, 0, True, ("ask",)):
            for row in (ASK, JOB, ALL):
                self.assert_row(with_part(row, 0, word), False)

    def test_the_word_of_another_sort(self):
        for row in (ASK, JOB, ALL):
            for word in ("ask", "job", "all"):
                self.assert_row(with_part(row, 0, word), word == row[0])

    def test_a_part_more_or_fewer(self):
        for row in (ASK, JOB, ALL):
            for thing in with_some_parts(row):
                self.assert_row(thing, False)
            self.assert_row(row + row, False)
            self.assert_row((row,), False)

    def test_a_list_in_the_place_of_the_tuple(self):
        for row in (ASK, JOB, ALL):
            self.assert_row(list(row), False)

    def test_things_of_other_kinds(self):
        for thing in ODD_THINGS:
            self.assert_row(thing, False)

    def test_things_of_other_kinds_in_each_place(self):
        for row in (ASK, JOB, ALL):
            for at in range(len(row)):
                for thing in ODD_THINGS:
                    self.assert_row(with_part(row, at, thing), False)

    def test_a_town_is_no_row(self):
        self.assert_row(TOWN, False)

    def test_what_is_handed_in_is_not_changed(self):
        thing = ["job", "a", [0, [1]], 10, 20]
        is_row(TOWN, thing)
        is_town(thing)
        is_row(TOWN, ("job", "a", thing, 10, 20))
        self.assertEqual(thing, ["job", "a", [0, [1]], 10, 20])


if __name__ == "__main__":
    unittest.main()

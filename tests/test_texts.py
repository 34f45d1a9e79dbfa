"""Points 2 and 22: rows and books written as texts, and read."""

import random
import unittest

from gapcalls.errors import Clash, NoRow, NoText
from gapcalls.texts import read_book, show_book, show_row
from reference import some_book, some_true_book
from samples import MOST_TIME, ODD_THINGS, PAIR, SIX, TOWN, all_row, ask, job

LONG = "1" + "0" * 5000

BOOK = [ask(3, 2, 10, 20), job(3, -5, 20), all_row(5, 4), job(0, -1, 0, house="b")]
TEXT = "a b+ c\nask a 3 2 b 10 20\njob a 3 -5 20\nall a 5 4\njob b 0 -1 0\n"


class Show(unittest.TestCase):
    def test_each_sort_of_row(self):
        self.assertEqual(show_row(ask(3, 2, 10, 20)), "ask a 3 2 b 10 20")
        self.assertEqual(show_row(job(3, 10, 20)), "job a 3 10 20")
        self.assertEqual(show_row(all_row(5, 4)), "all a 5 4")
        self.assertEqual(show_row(ask(0, 14, 0, 0, house="shop", asked="shop")), "ask shop 0 14 shop 0 0")

    def test_times_below_0_and_at_their_bounds(self):
        self.assertEqual(show_row(job(0, -1, 0)), "job a 0 -1 0")
        self.assertEqual(show_row(job(14, -MOST_TIME, MOST_TIME)), "job a 14 -1000000000000 1000000000000")
        self.assertEqual(show_row(ask(0, 0, -MOST_TIME, -MOST_TIME + 1)), "ask a 0 0 b -1000000000000 -999999999999")

    def test_books(self):
        self.assertEqual(show_book(TOWN, BOOK), TEXT)
        self.assertEqual(show_book(TOWN, []), "a b+ c\n")
        self.assertEqual(show_book((("a", "b"), ("a", "b")), []), "a+ b+\n")
        self.assertEqual(show_book((("a",), ()), [all_row(0, 0)] * 2), "a\nall a 0 0\nall a 0 0\n")
        self.assertEqual(show_book((SIX, ("f",)), []), "a b c d e f+\n")

    def test_what_is_no_book(self):
        for rows, number in (([None], 0), (BOOK + [job(0, 0, 1, house="d")], 4), ([job(0, 0, 1), job(0, 0, 2), ()], 2)):
            with self.assertRaises(NoRow) as caught:
                show_book(TOWN, rows)
            self.assertEqual(caught.exception.number, number)
        for rows, first, second in ((BOOK + [all_row(5, 5)], 2, 4), ([job(0, 0, 1), job(0, 0, 2), job(0, 0, 3)], 0, 1)):
            with self.assertRaises(Clash) as caught:
                show_book(TOWN, rows)
            self.assertEqual((caught.exception.first, caught.exception.second), (first, second))
        for thing in ODD_THINGS:
            with self.assertRaises(NoRow) as caught:
                show_book(TOWN, BOOK + [thing])
            self.assertEqual(caught.exception.number, 4)

    def test_rows_stay_as_they_were(self):
        rows = list(BOOK)
        show_book(TOWN, rows)
        self.assertEqual(rows, BOOK)


class Read(unittest.TestCase):
    def assert_read(self, text, town, rows):
        told = read_book(text)
        self.assertEqual(told, (town, rows))
        self.assertEqual((type(told), type(told[0]), type(told[1])), (tuple, tuple, list))

    def assert_no_text(self, text, number):
        with self.assertRaises(NoText) as caught:
            read_book(text)
        self.assertIs(type(caught.exception), NoText)
        self.assertEqual(caught.exception.number, number, text[:80])

    def test_books(self):
        self.assert_read(TEXT, TOWN, BOOK)
        self.assert_read("a\n", (("a",), ()), [])
        self.assert_read("abcdefgh+ z\n", (("abcdefgh", "z"), ("abcdefgh",)), [])
        self.assert_read("a\nall a 0 0\nall a 0 0\n", (("a",), ()), [all_row(0, 0)] * 2)

    def test_what_show_book_told(self):
        chance = random.Random(91)
        for _ in range(200):
            town, rows = some_book(chance, 30, most_houses=6, most_number=14, most_time=chance.choice((9, MOST_TIME)))
            self.assert_read(show_book(town, rows), town, rows)
        for _ in range(50):
            town, rows, _ = some_true_book(chance)
            self.assert_read(show_book(town, rows), town, rows)

    def test_times_at_their_bounds(self):
        self.assert_read("a\njob a 0 -1000000000000 1000000000000\n", (("a",), ()), [job(0, -MOST_TIME, MOST_TIME)])
        self.assert_no_text("a\njob a 0 -1000000000001 1000000000000\n", 1)
        self.assert_no_text("a\njob a 0 -1000000000000 1000000000001\n", 1)
        self.assert_no_text("a\njob a 0 -9999999999999 0\n", 1)
        self.assert_no_text("a\njob a 0 0 10000000000000\n", 1)

    def test_without_signs(self):
        self.assert_no_text("", 0)

    def test_without_its_last_line_feed(self):
        self.assert_no_text("a", 0)
        self.assert_no_text("a b+ c", 0)
        self.assert_no_text(TEXT[:-1], 4)
        self.assert_no_text("a\nall a 0 0", 1)
        self.assert_no_text("a\nall a 0 0\nno", 2)
        self.assert_no_text("a\nno\nall a 0 0", 1)

    def test_an_empty_row(self):
        self.assert_no_text("\n", 0)
        self.assert_no_text("\na\n", 0)
        self.assert_no_text("a\n\n", 1)
        self.assert_no_text(TEXT + "\n", 5)
        self.assert_no_text("a\nall a 0 0\n\nall a 0 0\n", 2)
        self.assert_no_text(" \n", 0)
        self.assert_no_text("a\n \n", 1)

    def test_a_blank_too_many(self):
        for text in (" a b\n", "a  b\n", "a b \n"):
            self.assert_no_text(text, 0)
        for row in (" job a 0 1 2", "job  a 0 1 2", "job a 0  1 2", "job a 0 1 2 ", "job a 0 1  2", "jo b a 0 1 2"):
            self.assert_no_text(f"a b\njob a 0 1 2\n{row}\n", 2)
            self.assert_no_text(f"a b\n{row}\njob a 0 1 2\n", 1)

    def test_a_tab(self):
        for text in ("a\tb\n", "\ta b\n", "a b\t\n", "\t\n"):
            self.assert_no_text(text, 0)
        for row in ("job\ta 0 1 2", "job a\t0 1 2", "\tjob a 0 1 2", "job a 0 1 2\t", "job a 0 1\t2", "job a 0 1 \t2"):
            self.assert_no_text(f"a b\n{row}\n", 1)

    def test_towns_that_are_none(self):
        for text in ("", "A", "a1", "+", "a++", "+a", "a +", "b a", "a a", "a a+", "a+ a", "abcdefghi", "a b c d e f g",
                     "a,b", "a-", "0", "a.", "b+ a+", "a+b", "(a)"):
            self.assert_no_text(text + "\n", 0)
            self.assert_no_text(text + "\nall a 0 0\nno\n", 0)

    def test_numbers_that_are_none(self):
        for figures in ("00", "01", "+1", "-0", "-", "--1", "+", "", "-01", "1.", "1.0", "1e1", "1_0", "0x1", "a", "1-",
                        "- 1", LONG, "-" + LONG, "0" + LONG, "00000000000001", "1" * 4300, "1" * 4301, "9" * 100000):
            self.assert_no_text(f"a b\njob a 0 -5 {figures}\n", 1)
            self.assert_no_text(f"a b\njob a {figures} -5 5\n", 1)
            self.assert_no_text(f"a b\njob a 0 {figures} 1000000000000\n", 1)
            self.assert_no_text(f"a b\nall a 3 {figures}\n", 1)
            self.assert_no_text(f"a b\nask a {figures} 0 b 5 6\n", 1)
            self.assert_no_text(f"a b\nask a 0 {figures} b 5 6\n", 1)

    def test_numbers_out_of_their_bounds(self):
        for row in ("job a 15 1 2", "job a -1 1 2", "ask a 15 0 b 1 2", "ask a 0 15 b 1 2", "all a 16 0", "all a 0 16",
                    "all a -1 0", "job a 0 2 1", "ask a 0 0 b 2 1"):
            self.assert_no_text(f"a b\n{row}\n", 1)
        self.assert_read("a b\nall a 15 15\njob a 14 1 2\n", (("a", "b"), ()), [all_row(15, 15), job(14, 1, 2)])

    def test_rows_of_no_town_and_no_sort(self):
        for row in ("job c 0 1 2", "ask a 0 0 c 1 2", "ask c 0 0 a 1 2", "all c 0 0", "jobs a 0 1 2", "Job a 0 1 2",
                    "job", "job a 0 1", "job a 0 1 2 3", "ask a 0 0 b 1", "all a 0", "all a 0 0 0", "0 a 0 1 2", "a b",
                    "a+ b",
                    "job a+ 0 1 2", "job 0 a 1 2", "town a b", "('all', 'a', 0, 0)", "all 'a' 0 0", "None", "True"):
            self.assert_no_text(f"a b\n{row}\n", 1)

    def test_the_first_row_that_is_none(self):
        self.assert_no_text("a\nall a 0 0\nno\nno\n", 2)
        self.assert_no_text("No\nno\n", 0)
        self.assert_no_text("a\n" + "all a 0 0\n" * 150 + "all a 00 0\n" + "no\n", 151)

    def test_clash_numbered_from_the_first_row_behind_the_towns(self):
        for text, first, second in (
                ("a\njob a 0 1 2\njob a 0 1 3\n", 0, 1),
                ("a\nall a 5 5\njob a 0 1 2\njob a 1 5 6\njob a 0 1 3\nall a 0 0\n", 1, 3)):
            with self.assertRaises(Clash) as caught:
                read_book(text)
            self.assertEqual((caught.exception.first, caught.exception.second), (first, second))

    def test_no_text_ahead_of_clash(self):
        self.assert_no_text("a\njob a 0 1 2\njob a 0 1 3\nno\n", 3)
        self.assert_no_text("a\njob a 0 1 2\njob a 0 1 3", 2)

    def test_what_is_told_is_the_askers_own(self):
        read_book(TEXT)[1].clear()
        self.assert_read(TEXT, TOWN, BOOK)

    def test_what_is_read_is_written_so(self):
        # Of many texts near to right ones: what is read comes to the same text again, and all else is refused.
        chance = random.Random(92)
        read = 0
        for _ in range(4000):
            at = chance.randrange(len(TEXT))
            sign = chance.choice(("", " ", "0", "1", "-", "+", "a", "b", "\n", "\t"))
            text = TEXT[:at] + sign + TEXT[at + chance.randint(0, 1):]
            try:
                told = read_book(text)
            except (NoText, Clash):
                continue
            read += 1
            self.assertEqual(show_book(*told), text)
        self.assertGreater(read, 100)

    def test_many_rows(self):
        rows = [job(0, 0, 1)] * 200
        self.assert_read(show_book(PAIR, rows), PAIR, rows)


if __name__ == "__main__":
    unittest.main()

"""Points 2 and 23: the desk's rows and answers."""

import random
import unittest

from gapcalls.desk import Desk
from gapcalls.errors import Clash, NoJob, NoLine, Short, TooMany
from gapcalls.questions import questions
from gapcalls.standing import may, must
from gapcalls.tellings import how_many
from gapcalls.texts import show_row
from gapcalls.whole import is_short, whole
from reference import Reference, some_tight_book, some_true_book
from samples import CHOICES, PAIR, SIX, all_row, asked, choices, done, job

TOWN_ROW = "town a+ b"
LONG = "1" + "0" * 5000

# Either of two asks may have led to b.0, and the other to b.1, of which no row came.
SOME = asked((10, 20), (10, 40)) + [job(0, 12, 18, house="b"), all_row(0, 2, house="b")]
SHORT = asked((10, 20), (10, 20)) + done((12, 18))


def town_row(town):
    houses, gates = town
    return "town " + " ".join(house + ("+" if house in gates else "") for house in houses)


def desk_of(town, rows):
    desk = Desk()
    desk.say(town_row(town))
    for row in rows:
        desk.say("row " + show_row(row))
    return desk


class Answers(unittest.TestCase):
    def assert_said(self, desk, row, wanted):
        told = desk.say(row)
        self.assertEqual((told, type(told)), (wanted, str))

    def test_town_and_row(self):
        desk = Desk()
        self.assert_said(desk, TOWN_ROW, "ok")
        self.assert_said(desk, "row job a 0 0 90", "ok")
        self.assert_said(desk, "row job a 0 0 90", "ok")
        self.assert_said(desk, "row ask a 0 0 b 10 20", "ok")
        self.assert_said(desk, "row all b 0 0", "ok")

    def test_no_rows(self):
        desk = desk_of(PAIR, [])
        for row, wanted in (("must", "none"), ("may", "none"), ("whole", "yes"), ("count", "1"), ("questions", "0")):
            self.assert_said(desk, row, wanted)

    def test_must_and_may(self):
        desk = desk_of(PAIR, SOME)
        self.assert_said(desk, "must", "none")
        self.assert_said(desk, "may", "a.0>b.0 a.1>b.0")
        desk.say("row job b 1 12 35")
        self.assert_said(desk, "must", "a.0>b.0 a.1>b.1")
        self.assert_said(desk, "may", "a.0>b.0 a.1>b.1")

    def test_none_where_there_is_no_whole_telling(self):
        desk = desk_of(PAIR, SHORT)
        self.assert_said(desk, "must", "none")
        self.assert_said(desk, "may", "none")

    def test_names_of_more_than_one_sign(self):
        desk = Desk()
        for row in ("town mill+ shop+", "row ask shop 11 3 mill 10 20", "row all shop 12 5", "row all mill 0 13",
                    "row job mill 12 12 18"):
            self.assert_said(desk, row, "ok")
        self.assert_said(desk, "may", "shop.11>mill.12")
        self.assert_said(desk, "who mill 12", "shop.11 -")

    def test_who_with_one_that_must_be(self):
        desk = desk_of(PAIR, asked((10, 20)) + done((12, 18)))
        self.assert_said(desk, "who b 0", "a.0")

    def test_who_with_several(self):
        desk = desk_of(PAIR, asked((10, 20), (10, 20)) + done((12, 18), (12, 18)))
        self.assert_said(desk, "who b 0", "a.0 a.1")
        self.assert_said(desk, "who b 1", "a.0 a.1")

    def test_who_with_none_known_behind_them(self):
        desk = desk_of(PAIR, asked((10, 20), (10, 20)) + [job(0, 12, 18, house="b")])
        self.assert_said(desk, "who b 0", "a.0 a.1 -")
        desk = desk_of((("a", "b"), ("a", "b")), asked((10, 20)) + done((12, 18), (12, 18)))
        self.assert_said(desk, "who b 0", "a.0 -")

    def test_who_with_a_lost_ask_alone(self):
        desk = desk_of(PAIR, [all_row(1, 1), job(0, 0, 90)] + done((12, 18)))
        self.assert_said(desk, "who b 0", "-")

    def test_who_of_a_job_from_outside(self):
        desk = desk_of(PAIR, asked((10, 20)) + done((12, 18)))
        self.assert_said(desk, "who a 0", "-")

    def test_who_leaves_out_what_can_be_by_itself_alone(self):
        desk = desk_of(PAIR, asked((10, 20), (10, 40)) + done((12, 18), (30, 40)))
        self.assert_said(desk, "who b 0", "a.0")
        self.assert_said(desk, "who b 1", "a.1")

    def test_asks_rise_by_their_numbers(self):
        desk = desk_of((("a", "b"), ("a", "b")), asked(*[(10, 20)] * 12) + [job(0, 12, 18, house="b")])
        self.assert_said(desk, "who b 0", " ".join(f"a.{number}" for number in range(12)) + " -")

    def test_whole(self):
        self.assert_said(desk_of(PAIR, SOME), "whole", "yes")
        self.assert_said(desk_of(PAIR, SHORT), "whole", "short asks a.0 a.1")
        self.assert_said(desk_of(PAIR, asked() + done((12, 18))), "whole", "short jobs b.0")
        self.assert_said(desk_of(PAIR, asked((10, 20)) + done((12, 18), (12, 18))), "whole", "short jobs b.0 b.1")

    def test_count_and_questions(self):
        for counts, many, number in (((1,), "1", "0"), ((2,), "2", "1"), ((2, 5), "10", "5"), ((10,), "10", "9")):
            desk = desk_of(CHOICES, choices(*counts))
            self.assert_said(desk, "count", many)
            self.assert_said(desk, "questions", number)
        self.assert_said(desk_of(CHOICES, choices(10, 10, 2)), "count", "200")

    def test_a_new_town_over_an_old_one(self):
        desk = desk_of(PAIR, asked((10, 20)) + done((12, 18)))
        self.assert_said(desk, "must", "a.0>b.0")
        self.assert_said(desk, TOWN_ROW, "ok")
        self.assert_said(desk, "must", "none")
        self.assert_said(desk, "row job a 0 5 6", "ok")
        self.assert_said(desk, "town c d", "ok")
        self.assert_said(desk, "row job c 0 5 6", "ok")
        with self.assertRaises(NoLine):
            desk.say("row job a 0 5 6")

    def test_two_desks_by_turns(self):
        one, other = Desk(), Desk()
        self.assert_said(one, TOWN_ROW, "ok")
        with self.assertRaises(NoLine):
            other.say("must")
        self.assert_said(other, "town a b c", "ok")
        rows = asked((10, 20)) + done((12, 18))
        for row in rows:
            self.assert_said(one, "row " + show_row(row), "ok")
            self.assert_said(other, "must", "none")
        for row in rows:
            self.assert_said(other, "row " + show_row(row), "ok")
            self.assert_said(one, "must", "a.0>b.0")
        self.assert_said(other, "town a", "ok")
        self.assert_said(one, "who b 0", "a.0")

    def test_asked_again_it_answers_the_same(self):
        desk = desk_of(PAIR, SOME)
        for row in ("must", "may", "whole", "count", "questions", "who b 0"):
            self.assertEqual(desk.say(row), desk.say(row))


class Refused(unittest.TestCase):
    ASKED = ("must", "may", "whole", "count", "questions", "who b 0", "who a 0")

    def assert_refused(self, desk, row, error):
        with self.assertRaises(error, msg=row[:80]) as caught:
            desk.say(row)
        self.assertIs(type(caught.exception), error)
        return caught.exception

    def assert_no_line(self, rows):
        """That each is refused, whatever stands there, and changes nothing."""
        for town, book in ((PAIR, []), (PAIR, asked((10, 20)) + done((12, 18))), (PAIR, SHORT)):
            desk = desk_of(town, book)
            before = self.answers(desk)
            for row in rows:
                self.assert_refused(desk, row, NoLine)
            self.assertEqual(self.answers(desk), before)
        for row in rows:
            self.assert_refused(Desk(), row, NoLine)

    def answers(self, desk):
        told = []
        for row in self.ASKED:
            try:
                told.append(desk.say(row))
            except (NoJob, Short, TooMany) as error:
                told.append(type(error))
        return told

    def test_other_words(self):
        self.assert_no_line([
            "", "town", "row", "who", "musts", "Must", "MAY", "must may", "tell", "count 3", "whole?", "question",
            "must\n", "\n", "\t", "must\t", "townn a", "rows all a 0 0", "all a 0 0", "a+ b", "who?", "none", "ok", "-",
            LONG])

    def test_a_blank_too_many_and_an_empty_word(self):
        self.assert_no_line([
            " ", "  ", " must", "must ", " may", "may ", " whole", "whole ", "count ", " questions", "questions ",
            " town a", "town  a", "town a ", "town a  b", "town ", " row all a 1 1", "row  all a 1 1", "row all  a 1 1",
            "row all a 1 1 ", "row ", "row  ", "who  b 0", "who b  0", "who b 0 ", " who b 0", "who b", "who  b",
            "who b ", "who  0", "who "])

    def test_texts_of_no_town(self):
        self.assert_no_line([
            "town A", "town b a", "town a a", "town a++", "town +", "town abcdefghi", "town a b c d e f g", "town a\n",
            "town a\tb", "town 0", "town a,b", "town a\nb"])

    def test_texts_of_no_row_of_the_town(self):
        self.assert_no_line([
            "row all c 1 1", "row job a 15 0 1", "row job a 0 1 0", "row job a 00 0 1", "row job a 0 -0 1",
            "row job a 0 +0 1", "row job a 0 0 1000000000001", f"row job a 0 0 {LONG}", f"row job a 0 -{LONG} 0",
            f"row job a {LONG} 0 1",
            "row job a 0 0 1\n", "row job a 0 0\t1", "row town a", "row must", "row job a 0 0 1 2", "row Job a 0 0 1",
            "row ask a 0 0 c 1 2"])

    def test_who_of_no_house_or_no_number(self):
        self.assert_no_line([
            "who c 0", "who A 0", "who b 15", "who b -1", "who b 00", "who b 01", "who b +0", "who b -0", "who b a",
            "who 0 b", "who b b", "who b 0 0", "who b 0 b 0", "who b.0", "who b 0.", f"who b {LONG}", f"who b -{LONG}",
            f"who b 0{LONG}", "who b 0\n", "who b\t0", "who a+ 0", "who b 1000000000000"])

    def test_all_but_town_where_no_town_stands(self):
        for row in self.ASKED + ("row all a 1 1", "row job a 0 0 1"):
            desk = Desk()
            self.assert_refused(desk, row, NoLine)
            self.assertEqual(desk.say(TOWN_ROW), "ok")

    def test_a_town_refused_where_none_stands(self):
        desk = Desk()
        self.assert_refused(desk, "town b a", NoLine)
        self.assert_refused(desk, "must", NoLine)

    def test_a_town_refused_leaves_the_old_one(self):
        desk = desk_of(PAIR, asked((10, 20)) + done((12, 18)))
        self.assert_refused(desk, "town c c", NoLine)
        self.assertEqual(desk.say("must"), "a.0>b.0")

    def test_clash(self):
        desk = desk_of(PAIR, [job(0, 0, 9), job(0, 0, 9), job(1, 5, 9)])
        caught = self.assert_refused(desk, "row job a 1 5 8", Clash)
        self.assertEqual((caught.first, caught.second), (1, 2))
        caught = self.assert_refused(desk, "row all a 0 0", Clash)
        self.assertEqual((caught.first, caught.second), (0, 2))
        self.assertEqual(desk.say("who a 1"), "-")
        self.assertEqual(desk.say("row job a 2 5 8"), "ok")
        caught = self.assert_refused(desk, "row all a 0 0", Clash)
        self.assertEqual((caught.first, caught.second), (0, 3))

    def test_no_line_ahead_of_clash(self):
        desk = desk_of(PAIR, [job(0, 0, 9)])
        self.assert_refused(desk, "row job a 0 0 010", NoLine)
        self.assert_refused(desk, "row job a 0 0 10", Clash)

    def test_no_job(self):
        desk = desk_of(PAIR, asked((10, 20)) + [job(1, 12, 18, house="b"), all_row(0, 2, house="b")])
        for row in ("who b 0", "who b 2", "who b 14", "who a 1"):
            self.assert_refused(desk, row, NoJob)
        self.assert_refused(desk, "who b 15", NoLine)

    def test_no_job_ahead_of_short(self):
        desk = desk_of(PAIR, SHORT)
        self.assert_refused(desk, "who b 1", NoJob)
        for row in ("who b 0", "who a 0", "count", "questions"):
            caught = self.assert_refused(desk, row, Short)
            self.assertTrue(Reference(PAIR, SHORT).is_short(caught.side, caught.some))
        self.assertEqual(desk.say("may"), "none")

    def test_too_many(self):
        desk = desk_of(CHOICES, choices(15, 14))
        self.assert_refused(desk, "count", TooMany)
        self.assert_refused(desk, "questions", TooMany)
        self.assertEqual(desk.say("who b 0"), "a.0 -")
        desk = desk_of(CHOICES, choices(11))
        self.assertEqual(desk.say("count"), "11")
        self.assert_refused(desk, "questions", TooMany)


class AgainstTheModules(unittest.TestCase):
    def test_books_of_any_kind(self):
        chance = random.Random(95)
        for _ in range(150):
            town, rows = some_tight_book(chance) if chance.random() < 0.7 else some_true_book(chance)[:2]
            desk = desk_of(town, rows)
            told = whole(town, rows)
            if told[0] == "short":
                _, side, *some = desk.say("whole").split(" ")
                some = [(one.split(".")[0], int(one.split(".")[1])) for one in some]
                self.assertTrue(is_short(town, rows, side, some))
                continue
            self.assertEqual(desk.say("whole"), "yes")
            self.assert_pairs(desk.say("must"), must(town, rows))
            self.assert_pairs(desk.say("may"), may(town, rows))
            try:
                self.assertEqual(desk.say("count"), str(how_many(town, rows)))
                self.assertEqual(desk.say("questions"), str(questions(town, rows)[0]))
            except TooMany:
                pass
            self.assert_who(desk, town, rows)

    def assert_pairs(self, said, pairs):
        self.assertEqual(said, " ".join(f"{a}.{b}>{c}.{d}" for (a, b), (c, d) in pairs) or "none")

    def assert_who(self, desk, town, rows):
        reference = Reference(town, rows)
        if len(reference.asks) > 4 or len(reference.jobs) > 6:
            return
        tellings = reference.tellings()
        for house, number in reference.known_jobs:
            led = [[one for one, other in telling if other == (house, number)] for telling in tellings]
            wanted = [f"{one}.{at}" for one, at in sorted({asks[0] for asks in led if asks})]
            self.assertEqual(desk.say(f"who {house} {number}"), " ".join(wanted + (["-"] if [] in led else [])))

    def test_a_long_book(self):
        desk = desk_of((SIX, SIX), choices(15, 15, 15, 15, 15))
        self.assertEqual(len(desk.say("may").split(" ")), 75)


if __name__ == "__main__":
    unittest.main()

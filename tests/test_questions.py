"""Points 2, 3, 15 and 16: the fewest questions by which it is sure what was, and what shows that none needs fewer."""

import itertools
import random
import time
import unittest

from gapcalls.errors import Short, TooMany
from gapcalls.questions import are_bars, is_plan, questions
from gapcalls.tellings import tellings
from reference import Reference, are_bars_of, is_plan_for, least_need, needs, small_books
from samples import CHOICES, LITTLE_TIME, PAIR, all_row, asked, choices, done, job, pairs_of

BOTH = (("a", "b"), ("a", "b"))
ONE = asked((10, 20)) + done((12, 18))
TWO = asked((10, 20), (10, 20)) + done((12, 18), (12, 18))
THREE = asked((10, 20), (10, 20), (10, 20)) + done((12, 18), (12, 18), (12, 18))
# Either ask may have led to b.0, or none known.
PERHAPS = asked((10, 20), (10, 20)) + [job(0, 12, 18, house="b")]
SHORT = asked((10, 20), (10, 20)) + done((12, 18))


def sure(*numbers):
    return ("sure", pairs_of(*numbers))


def who(number, *rows):
    return ("who", ("b", number), list(rows))


def asked_of(number, plan):
    return (("a", number), plan)


STRAIGHT, CROSSED = sure((0, 0), (1, 1)), sure((0, 1), (1, 0))
PLAN = who(0, asked_of(0, STRAIGHT), asked_of(1, CROSSED))
PERHAPS_PLAN = who(0, asked_of(0, sure((0, 0))), asked_of(1, sure((1, 0))), (None, sure()))


class Judging(unittest.TestCase):
    def assert_told(self, town, rows):
        told = questions(town, rows)
        reference = Reference(town, rows)
        all_tellings = tellings(town, rows)
        self.assertEqual([type(part) for part in told], [int, tuple, list])
        self.assertEqual(len(told), 3)
        number, plan, bars = told
        self.assertTrue(is_plan_for(all_tellings, reference.known_jobs, plan), (town, rows, plan))
        self.assertEqual(needs(plan), number)
        self.assert_kinds(plan)
        for bar in bars:
            self.assertEqual((type(bar), type(bar[0]), type(bar[1]), len(bar)), (tuple, tuple, int, 2))
        self.assertTrue(are_bars_of(all_tellings, reference.known_jobs, number, bars), (town, rows, bars))
        self.assertFalse(are_bars_of(all_tellings, reference.known_jobs, number + 1, bars))
        self.assert_plan(town, rows, plan, True)
        self.assert_bars(town, rows, number, bars, True)
        self.assert_bars(town, rows, number + 1, bars, False)
        return told

    def assert_kinds(self, plan):
        self.assertIs(type(plan), tuple)
        self.assertIs(type(plan[-1]), list)
        if plan[0] == "who":
            self.assertIs(type(plan[1]), tuple)
            for row in plan[2]:
                self.assertIs(type(row), tuple)
                self.assert_kinds(row[1])

    def assert_plan(self, town, rows, plan, wanted):
        self.assertIs(is_plan(town, rows, plan), wanted, (town, rows, plan))

    def assert_bars(self, town, rows, number, bars, wanted):
        self.assertIs(are_bars(town, rows, number, bars), wanted, (town, rows, number, bars))


class Told(Judging):
    def test_one_telling_leaves_nothing_to_ask(self):
        self.assertEqual(self.assert_told(PAIR, ONE)[:2], (0, sure((0, 0))))
        self.assertEqual(self.assert_told(PAIR, [])[:2], (0, ("sure", [])))
        self.assertEqual(self.assert_told(BOTH, [all_row(3, 3), all_row(3, 3, house="b")])[:2], (0, ("sure", [])))

    def test_two(self):
        number, plan, _ = self.assert_told(PAIR, TWO)
        self.assertEqual(number, 1)
        self.assertIn(plan, (PLAN, who(1, asked_of(0, CROSSED), asked_of(1, STRAIGHT))))

    def test_none_behind_the_asks(self):
        self.assertEqual(self.assert_told(PAIR, PERHAPS)[:2], (1, PERHAPS_PLAN))

    def test_several(self):
        self.assertEqual(self.assert_told(PAIR, THREE)[0], 2)
        for counts, number in (((3,), 2), ((4,), 3), ((2, 2), 2), ((2, 3), 3), ((10,), 9), ((2, 5), 5), ((2, 2, 2), 3)):
            self.assertEqual(self.assert_told(CHOICES, choices(*counts))[0], number)

    def test_ten_tellings_and_eleven(self):
        for rows in (choices(10), choices(5, 2), choices(1, 10)):
            self.assert_told(CHOICES, rows)
        for rows in (choices(11), choices(3, 4), choices(2, 2, 3), choices(15, 15, 15, 15, 15)):
            for tell, more in ((questions, ()), (is_plan, (PLAN,)), (is_plan, (sure(),)), (are_bars, (0, [])),
                               (are_bars, (-3, [((0,), 0)]))):
                start = time.monotonic()
                with self.assertRaises(TooMany) as caught:
                    tell(CHOICES, rows, *more)
                self.assertIs(type(caught.exception), TooMany)
                self.assertLess(time.monotonic() - start, LITTLE_TIME)

    def test_short(self):
        for rows in (SHORT, asked() + done((12, 18))):
            for tell, more in ((questions, ()), (is_plan, (PLAN,)), (are_bars, (0, []))):
                with self.assertRaises(Short) as caught:
                    tell(PAIR, rows, *more)
                self.assertTrue(Reference(PAIR, rows).is_short(caught.exception.side, caught.exception.some))

    def test_told_lists_are_the_askers_own(self):
        def spoil(plan):
            for row in plan[2] if plan[0] == "who" else ():
                spoil(row[1])
            plan[-1].clear()

        for town, rows in ((PAIR, TWO), (PAIR, ONE), (PAIR, THREE), (CHOICES, choices(2, 3))):
            kept, told = questions(town, rows), questions(town, rows)
            spoil(told[1])
            told[2].clear()
            self.assertEqual(questions(town, rows), kept)

    def test_what_is_handed_in_stays_as_it_was(self):
        rows, bars = list(TWO), [((0, 1), 1)]
        plan = who(0, asked_of(0, STRAIGHT), asked_of(1, CROSSED))
        questions(PAIR, rows)
        is_plan(PAIR, rows, plan)
        are_bars(PAIR, rows, 1, bars)
        self.assertEqual((rows, plan, bars), (TWO, PLAN, [((0, 1), 1)]))

    def test_fewest_of_small_books(self):
        numbers = []
        for town, rows, reference in small_books(51, 300, most_tellings=6):
            number = self.assert_told(town, rows)[0]
            numbers.append(number)
            self.assertEqual(number, least_need(reference.tellings(), reference.known_jobs))
        self.assertGreater(len([number for number in numbers if number > 1]), 10)

    def test_fewest_of_books_made_to_be_asked(self):
        # Up to four asks and five jobs, of which each ask may have led to a few.
        chance = random.Random(52)
        count = 0
        while count < 40:
            spans = sorted(sorted(chance.sample(range(0, 60, 10), 2)) for _ in range(chance.randint(2, 4)))
            begins = sorted(chance.choice(range(1, 60, 5)) for _ in range(chance.randint(2, 5)))
            rows = asked(*spans) + done(*((begin, begin + chance.randint(0, 6)) for begin in begins))
            try:
                several = tellings(BOTH, rows, 10)
            except (TooMany, Short):
                continue
            if 4 <= len(several) <= 7:
                count += 1
                self.assertEqual(self.assert_told(BOTH, rows)[0], least_need(several, Reference(BOTH, rows).known_jobs))

    def test_many_jobs_to_ask_for(self):
        # Ten tellings, and many known jobs that tell none of them apart.
        rows = choices(2, 5)
        rows = [row for row in rows if row[0] != "all" or row[1] in "abc"]
        for house in "def":
            rows += [job(number, 10, 20, house=house) for number in range(15)] + [all_row(0, 15, house=house)]
        start = time.monotonic()
        self.assertEqual(self.assert_told(CHOICES, rows)[0], 5)
        self.assertLess(time.monotonic() - start, LITTLE_TIME)


class IsPlan(Judging):
    def test_each_that_is_one(self):
        self.assert_plan(PAIR, TWO, PLAN, True)
        self.assert_plan(PAIR, TWO, who(1, asked_of(0, CROSSED), asked_of(1, STRAIGHT)), True)
        self.assert_plan(PAIR, PERHAPS, PERHAPS_PLAN, True)

    def test_another_word(self):
        for word in ("whom", "sure", "", "Who", "who ", "must"):
            self.assert_plan(PAIR, TWO, (word,) + PLAN[1:], False)
            self.assert_plan(PAIR, ONE, (word, ("b", 0), [asked_of(0, sure((0, 0)))]), False)
        for word in ("who", "", "Sure", "sure ", "whom"):
            self.assert_plan(PAIR, ONE, (word, pairs_of((0, 0))), False)
            self.assert_plan(PAIR, TWO, who(0, asked_of(0, (word, STRAIGHT[1])), asked_of(1, CROSSED)), False)

    def test_another_word_at_a_deeper_level(self):
        deep = who(0, asked_of(0, who(1, asked_of(1, STRAIGHT))), asked_of(1, CROSSED))
        self.assert_plan(PAIR, TWO, deep, True)
        wrong = who(0, asked_of(0, ("whom", ("b", 1), [asked_of(1, STRAIGHT)])), asked_of(1, CROSSED))
        self.assert_plan(PAIR, TWO, wrong, False)

    def test_sure_of_one_alone(self):
        self.assert_plan(PAIR, ONE, sure((0, 0)), True)
        self.assert_plan(PAIR, TWO, STRAIGHT, False)
        self.assert_plan(PAIR, TWO, CROSSED, False)
        self.assert_plan(PAIR, ONE, sure(), False)
        self.assert_plan(PAIR, ONE, sure((0, 0), (0, 0)), False)
        self.assert_plan(PAIR, ONE, sure((0, 1)), False)

    def test_an_answer_left_out(self):
        for rows, plan in ((TWO, PLAN), (PERHAPS, PERHAPS_PLAN)):
            for at in range(len(plan[2])):
                self.assert_plan(PAIR, rows, plan[:2] + (plan[2][:at] + plan[2][at + 1:],), False)
            self.assert_plan(PAIR, rows, plan[:2] + ([],), False)

    def test_one_answer_more(self):
        for rows, plan in ((TWO, PLAN), (PERHAPS, PERHAPS_PLAN), (ONE, who(0, asked_of(0, sure((0, 0)))))):
            self.assert_plan(PAIR, rows, plan, True)
            for answer in (("a", 0), ("a", 1), ("a", 2), ("a", 14), ("a", -1), ("b", 0), ("z", 10 ** 5000), None):
                for at in range(len(plan[2]) + 1):
                    more = plan[2][:at] + [(answer, STRAIGHT)] + plan[2][at:]
                    self.assert_plan(PAIR, rows, plan[:2] + (more,), False)

    def test_answers_not_rising_and_none_not_behind(self):
        for rows, plan in ((TWO, PLAN), (PERHAPS, PERHAPS_PLAN)):
            for order in itertools.permutations(plan[2]):
                self.assert_plan(PAIR, rows, plan[:2] + (list(order),), list(order) == plan[2])

    def test_another_answer(self):
        for answer in (("a", 1), ("a", 2), ("b", 0), None):
            self.assert_plan(PAIR, ONE, ("who", ("b", 0), [(answer, sure((0, 0)))]), False)

    def test_a_telling_exchanged(self):
        self.assert_plan(PAIR, TWO, who(0, asked_of(0, CROSSED), asked_of(1, STRAIGHT)), False)
        self.assert_plan(PAIR, TWO, who(0, asked_of(0, STRAIGHT), asked_of(1, STRAIGHT)), False)
        self.assert_plan(PAIR, TWO, who(0, asked_of(0, sure((1, 1), (0, 0))), asked_of(1, CROSSED)), False)
        self.assert_plan(PAIR, TWO, who(0, asked_of(0, sure()), asked_of(1, CROSSED)), False)
        self.assert_plan(PAIR, PERHAPS, PERHAPS_PLAN[:2] + (PERHAPS_PLAN[2][:2] + [(None, sure((0, 0)))],), False)

    def test_a_job_that_is_not_known(self):
        for other in (("b", 2), ("b", -1), ("z", 0), ("", 10 ** 5000), ("a", 1)):
            self.assert_plan(PAIR, TWO, ("who", other) + PLAN[2:], False)
            self.assert_plan(PAIR, ONE, ("who", other, [(None, sure((0, 0)))]), False)
            self.assert_plan(PAIR, TWO, who(0, asked_of(0, ("who", other, [(None, STRAIGHT)])), asked_of(1, CROSSED)),
                             False)

    def test_a_lost_job(self):
        rows = asked((10, 20)) + [job(1, 12, 18, house="b"), all_row(0, 2, house="b")]
        self.assertEqual(len(tellings(BOTH, rows)), 2)
        plan = [asked_of(0, sure((0, 1))), (None, sure())]
        self.assert_plan(BOTH, rows, ("who", ("b", 1), plan), True)
        self.assert_plan(BOTH, rows, ("who", ("b", 0), plan), False)
        self.assert_plan(BOTH, rows, ("who", ("b", 0), [(None, ("who", ("b", 1), plan))]), False)

    def test_more_questions_than_needed(self):
        self.assert_plan(PAIR, ONE, who(0, asked_of(0, sure((0, 0)))), True)
        self.assert_plan(PAIR, ONE, ("who", ("a", 0), [(None, sure((0, 0)))]), True)
        self.assert_plan(PAIR, TWO, ("who", ("a", 0), [(None, PLAN)]), True)
        again = who(0, asked_of(0, who(0, asked_of(0, STRAIGHT))), asked_of(1, who(1, asked_of(0, CROSSED))))
        self.assert_plan(PAIR, TWO, again, True)

    def test_deep_plans(self):
        for deep in (49, 60):
            plan, wrong = PLAN, who(0, asked_of(0, CROSSED), asked_of(1, STRAIGHT))
            for _ in range(deep):
                plan, wrong = ("who", ("a", 0), [(None, plan)]), ("who", ("a", 0), [(None, wrong)])
            self.assert_plan(PAIR, TWO, plan, True)
            self.assert_plan(PAIR, TWO, wrong, False)
            self.assert_plan(PAIR, TWO, ("whom",) + plan[1:], False)

    def test_deep_plans_behind_a_question(self):
        one, other = STRAIGHT, CROSSED
        for _ in range(48):
            one, other = who(0, asked_of(0, one)), who(1, asked_of(0, other))
        self.assert_plan(PAIR, TWO, who(0, asked_of(0, one), asked_of(1, other)), True)
        self.assert_plan(PAIR, TWO, who(0, asked_of(0, one), asked_of(1, one)), False)

    def test_plans_of_small_books_for_one_another(self):
        books = [(town, rows, questions(town, rows)[1]) for town, rows, _ in small_books(53, 60, most_tellings=6)]
        for town, rows, _ in books:
            reference, all_tellings = Reference(town, rows), tellings(town, rows)
            for _, _, plan in books:
                self.assert_plan(town, rows, plan, is_plan_for(all_tellings, reference.known_jobs, plan))


class AreBars(Judging):
    def test_of_one_telling(self):
        for number in (0, -1, -10 ** 5000):
            self.assert_bars(PAIR, ONE, number, [((0,), 0)], True)
            self.assert_bars(PAIR, ONE, number, [], False)
        self.assert_bars(PAIR, ONE, -2, [((0,), -2)], True)
        self.assert_bars(PAIR, ONE, -1, [((0,), -2)], False)
        self.assert_bars(PAIR, ONE, 1, [((0,), 0)], False)

    def test_some_of_one_telling(self):
        for number in (-1, 0, 1):
            self.assert_bars(PAIR, ONE, number, [((0,), 1)], False)
            self.assert_bars(PAIR, ONE, number, [((0,), 2)], False)
        self.assert_bars(PAIR, TWO, 1, [((0, 1), 1), ((0,), 0), ((1,), -3)], True)
        self.assert_bars(PAIR, TWO, 1, [((0, 1), 1), ((0,), 1)], False)

    def test_a_number_one_greater(self):
        self.assert_bars(PAIR, TWO, 1, [((0, 1), 1)], True)
        self.assert_bars(PAIR, TWO, 2, [((0, 1), 1)], False)
        self.assert_bars(PAIR, TWO, 2, [((0, 1), 2)], False)
        self.assert_bars(PAIR, TWO, 1, [((0, 1), 2)], False)
        self.assert_bars(PAIR, TWO, 0, [((0, 1), 1)], True)
        self.assert_bars(PAIR, TWO, 0, [((0, 1), 0)], True)
        self.assert_bars(PAIR, TWO, 1, [((0, 1), 0)], False)

    def test_not_all_tellings(self):
        for number in (-1, 0, 1):
            for bars in ([], [((0,), 0)], [((1,), 0)], [((0,), 0), ((1,), 0)]):
                self.assert_bars(PAIR, TWO, number, bars, False)

    def test_numbers_out_of_the_tellings(self):
        for wrong in ((2,), (0, 2), (-1,), (-1, 0), (10 ** 5000,), (0, 1, 2)):
            for need in (-1, 0, 1):
                self.assert_bars(PAIR, TWO, 1, [((0, 1), 1), (wrong, need)], False)
                self.assert_bars(PAIR, TWO, 0, [(wrong, need)], False)

    def test_none_and_not_rising_whatever_the_number(self):
        for wrong in ((), (1, 0), (0, 0), (0, 1, 1)):
            for need in (-1, 0, 1):
                self.assert_bars(PAIR, TWO, 1, [((0, 1), 1), (wrong, need)], False)
                self.assert_bars(PAIR, TWO, -1, [(wrong, need), ((0, 1), 0)], False)

    def test_two_questions(self):
        # By whichever job of b is asked for, two of the six are left for each of the three answers.
        everything = ((0, 1, 2, 3, 4, 5), 2)
        for left in itertools.product(((0, 1), (2, 4), (3, 5)), ((2, 3), (0, 5), (1, 4)), ((4, 5), (1, 3), (0, 2))):
            bars = [everything] + [(some, 1) for some in left]
            self.assert_bars(PAIR, THREE, 2, bars, True)
            for at in range(len(bars)):
                self.assert_bars(PAIR, THREE, 2, bars[:at] + bars[at + 1:], False)
        self.assert_bars(PAIR, THREE, 2, [everything, ((0, 3), 1), ((1, 2), 1), ((4, 5), 1)], False)

    def test_three_tellings_by_two_questions(self):
        # Of three jobs of b the ask led to one: asked for any of them two may be left.
        pairs = [((0, 1), 1), ((0, 2), 1), ((1, 2), 1)]
        self.assert_bars(CHOICES, choices(3), 2, [((0, 1, 2), 2)] + pairs, True)
        self.assert_bars(CHOICES, choices(3), 2, pairs + [((0, 1, 2), 3)], False)
        for at in range(3):
            self.assert_bars(CHOICES, choices(3), 2, [((0, 1, 2), 2)] + pairs[:at] + pairs[at + 1:], False)
            too_few = pairs[:at] + [(pairs[at][0], 0)] + pairs[at + 1:]
            self.assert_bars(CHOICES, choices(3), 2, [((0, 1, 2), 2)] + too_few, False)

    def test_the_same_some_with_several_numbers(self):
        pairs = [((0, 1), 1), ((0, 1), 0), ((0, 2), -5), ((0, 2), 1), ((1, 2), 1)]
        self.assert_bars(CHOICES, choices(3), 2, [((0, 1, 2), 2)] + pairs, True)
        self.assert_bars(CHOICES, choices(3), 2, [((0, 1, 2), 1)] + pairs + [((0, 1, 2), 2)], True)
        self.assert_bars(CHOICES, choices(3), 2, [((0, 1, 2), 3), ((0, 1, 2), 2)] + pairs, False)

    def test_bars_that_say_too_much_of_some(self):
        # What is not needed must be right, too.
        pairs = [((0, 1), 1), ((0, 2), 1), ((1, 2), 1)]
        self.assert_bars(CHOICES, choices(3), 1, [((0, 1, 2), 1), ((0, 1), 2)], False)
        self.assert_bars(CHOICES, choices(3), 2, [((0, 1, 2), 2)] + pairs + [((0, 1), 2)], False)

    def test_a_job_that_tells_nothing_apart(self):
        # Asked for a.0, a known job, all give None: those of some that give it are some themselves.
        self.assert_bars(PAIR, TWO, 2, [((0, 1), 2), ((0,), 0), ((1,), 0)], False)

    def test_against_the_words(self):
        chance = random.Random(54)
        outcomes = []
        for town, rows, reference in small_books(55, 150, most_tellings=8):
            all_tellings = reference.tellings()
            number, _, bars = questions(town, rows)
            several = [tuple(sorted(chance.sample(range(len(all_tellings)), chance.randint(1, len(all_tellings)))))
                       for _ in range(10)]
            for _ in range(20):
                others = [bar for bar in bars if chance.random() < 0.9]
                others += [(chance.choice(several), chance.randint(-1, 2)) for _ in range(chance.randint(0, 2))]
                wanted = are_bars_of(all_tellings, reference.known_jobs, number, others)
                outcomes.append(wanted)
                self.assert_bars(town, rows, number, others, wanted)
        self.assertTrue(200 < sum(outcomes) < len(outcomes) - 200)


if __name__ == "__main__":
    unittest.main()

"""The nine refusals: what they stand under, and their fields."""

import pickle
import unittest

from gapcalls.errors import (
    CallError, Clash, NoAsk, NoJob, NoLine, NoRow, NoText, OffTime, Short, TooMany)

# Each refusal, what it is made of, and the names of its fields.
REFUSALS = (
    (NoRow, (7,), ("number",)),
    (NoText, (0,), ("number",)),
    (Clash, (2, 5), ("first", "second")),
    (Short, ("jobs", [("a", 0), ("b", 3)]), ("side", "some")),
    (OffTime, ([("a", "b", -3), ("b", "a", 2)],), ("links",)),
    (NoAsk, ("no such ask",), ()),
    (NoJob, ("no such job",), ()),
    (TooMany, ("too many",), ()),
    (NoLine, ("no such row",), ()),
)


class Refusals(unittest.TestCase):
    def test_call_error_is_right_under_value_error(self):
        self.assertEqual(CallError.__bases__, (ValueError,))

    def test_each_is_right_under_call_error(self):
        for refusal, _, _ in REFUSALS:
            with self.subTest(refusal=refusal.__name__):
                self.assertEqual(refusal.__bases__, (CallError,))

    def test_each_is_caught_as_itself_and_as_those_above_it(self):
        for refusal, parts, _ in REFUSALS:
            for above in (refusal, CallError, ValueError):
                with self.subTest(refusal=refusal.__name__, above=above.__name__):
                    with self.assertRaises(above):
                        raise refusal(*parts)

    def test_none_is_one_of_the_other_eight(self):
        for refusal, parts, _ in REFUSALS:
            made = refusal(*parts)
            others = [other for other, _, _ in REFUSALS if isinstance(made, other)]
            with self.subTest(refusal=refusal.__name__):
                self.assertEqual(others, [refusal])

    def test_fields_are_those_that_it_was_made_of(self):
        for refusal, parts, names in REFUSALS:
            made = refusal(*parts)
            with self.subTest(refusal=refusal.__name__):
                self.assertEqual([getattr(made, name) for name in names], list(parts)[:len(names)])

    def test_there_are_no_other_fields(self):
        for refusal, parts, names in REFUSALS:
            with self.subTest(refusal=refusal.__name__):
                self.assertEqual(sorted(vars(refusal(*parts))), sorted(names))

    def test_those_made_of_a_text_tell_it(self):
        for refusal in (NoAsk, NoJob, TooMany, NoLine):
            with self.subTest(refusal=refusal.__name__):
                self.assertEqual(str(refusal("told so")), "told so")

    def test_two_of_a_kind_have_fields_of_their_own(self):
        one, other = Clash(0, 1), Clash(2, 3)
        self.assertEqual((one.first, one.second, other.first, other.second), (0, 1, 2, 3))

    def test_a_list_that_was_handed_in_is_not_kept(self):
        some, links = [("a", 0)], [("a", "a", -1)]
        short, off_time = Short("asks", some), OffTime(links)
        some.append(("a", 1))
        links.clear()
        self.assertEqual(short.some, [("a", 0)])
        self.assertEqual(off_time.links, [("a", "a", -1)])

    def test_lists_in_the_fields_are_lists(self):
        self.assertIs(type(Short("asks", []).some), list)
        self.assertIs(type(OffTime([]).links), list)

    def test_they_can_be_handed_from_one_process_to_another(self):
        for refusal, parts, names in REFUSALS:
            again = pickle.loads(pickle.dumps(refusal(*parts)))
            with self.subTest(refusal=refusal.__name__):
                self.assertEqual([getattr(again, name) for name in names], list(parts)[:len(names)])


if __name__ == "__main__":
    unittest.main()

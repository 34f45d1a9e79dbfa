"""The interface: each name that the document lists is there, with its arguments in their places."""

import importlib
import inspect
import unittest

FUNCTIONS = {
    "rows": ("is_town(thing)", "is_row(town, thing)"),
    "clash": ("do_clash(one, other)", "need_book(town, rows)"),
    "gaps": (
        "known_asks(town, rows)", "known_jobs(town, rows)", "lost_asks(town, rows)", "lost_jobs(town, rows)",
        "open_houses(town, rows)", "ask_span(town, rows, ask)", "job_span(town, rows, job)",
        "more_from(town, rows, house)"),
    "chances": ("may_lead(town, rows, ask, job)", "more_jobs(town, rows, ask)", "more_asks(town, rows, job)"),
    "whole": ("whole(town, rows)", "is_whole(town, rows, pairs)", "is_short(town, rows, side, some)"),
    "standing": (
        "standing(town, rows, ask, job)", "is_standing(town, rows, ask, job, told)", "must(town, rows)",
        "may(town, rows)"),
    "tellings": ("how_many(town, rows, limit=200)", "tellings(town, rows, limit=200)", "is_telling(town, rows, pairs)"),
    "questions": ("questions(town, rows)", "is_plan(town, rows, plan)", "are_bars(town, rows, number, bars)"),
    "trees": (
        "above(town, rows, telling, job)", "all_above(town, rows, telling, job)", "under(town, rows, telling, job)",
        "forest(town, rows, telling)", "stands_above(town, rows, one, other)"),
    "clocks": (
        "in_time(town, rows, pairs, shifts)", "is_ring(town, rows, pairs, links)", "shifts(town, rows, pairs)",
        "greatest(town, rows, pairs, one, other)"),
    "texts": ("show_row(row)", "show_book(town, rows)", "read_book(text)"),
}

CLASSES = {
    ("keeper", "Keeper(town)"): ("come(row)", "rows()", "is_whole()", "must()", "may()", "brought()"),
    ("desk", "Desk()"): ("say(row)",),
}


def written(thing, name):
    return name + str(inspect.signature(thing))


class Interface(unittest.TestCase):
    def test_functions(self):
        for module_name, functions in FUNCTIONS.items():
            module = importlib.import_module("gapcalls." + module_name)
            for function in functions:
                name = function.split("(")[0]
                self.assertTrue(inspect.isfunction(getattr(module, name)))
                self.assertEqual(written(getattr(module, name), name), function)

    def test_classes(self):
        for (module_name, made), methods in CLASSES.items():
            module = importlib.import_module("gapcalls." + module_name)
            name = made.split("(")[0]
            own_class = getattr(module, name)
            self.assertEqual(written(own_class, name), made)
            for method in methods:
                method_name = method.split("(")[0]
                # It stands in the class itself, not only in one above it.
                own = vars(own_class)[method_name]
                self.assertEqual(written(own, method_name).replace("(self, ", "(").replace("(self)", "()"), method)


if __name__ == "__main__":
    unittest.main()

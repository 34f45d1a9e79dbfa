"""What several test files use: towns, rows, and things that are neither."""

MOST_TIME = 10 ** 12

TOWN = (("a", "b", "c"), ("b",))

ASK = ("ask", "a", 3, 2, "b", 10, 20)
JOB = ("job", "a", 3, 10, 20)
ALL = ("all", "a", 5, 4)


def ask(number, made_in, out, back, house="a", asked="b"):
    return ("ask", house, number, made_in, asked, out, back)


def job(number, begin, end, house="a"):
    return ("job", house, number, begin, end)


def all_row(asks, jobs, house="a"):
    return ("all", house, asks, jobs)


def nested(inmost, depth, make):
    thing = inmost
    for _ in range(depth):
        thing = make(thing)
    return thing


# Things of every kind that "of anything" allows; none is a town, a row or a part of a row.
ODD_THINGS = (
    None, True, False, 10 ** 13, -10 ** 13, 10 ** 5000, -10 ** 5000,
    "", " ", "~", "\t", "\n", "A", "a b", "a\n", "0", "3", "asking", "abcdefghi",
    (), [], ((),), [[]], ([],), [()], (None,), [None], (True, False), (1, 2), [1, 2],
    ("a",), ["a"], ("a", "b"), ["a", "b"], (("a",),), [["a"]], ((), ()), ([], []),
    ("ask",), ("job",), ("all",), ["job", "a", 3, 10, 20],
    nested("a", 6, lambda thing: (thing,)), nested("a", 6, lambda thing: [thing]),
    nested(0, 3, lambda thing: ([thing], thing)), nested(None, 6, lambda thing: (thing, [])),
)


def with_part(row, at, part):
    return row[:at] + (part,) + row[at + 1:]


def with_some_parts(row):
    """The row with one part left out, once for each, and with one put in at each place."""
    shorter = [row[:at] + row[at + 1:] for at in range(len(row))]
    longer = [row[:at] + (row[min(at, len(row) - 1)],) + row[at:] for at in range(len(row) + 1)]
    return shorter + longer

"""Which rows clash, and which lists of rows are books (points 6 and 7 of the document)."""

from gapcalls.errors import Clash, NoRow
from gapcalls.rows import is_row


def is_out_of_order(number, time, other_number, other_time):
    if number < other_number:
        return time > other_time
    return time < other_time


def do_asks_clash(one, other):
    number, out = one[2], one[5]
    other_number, other_out = other[2], other[5]
    return number == other_number or is_out_of_order(number, out, other_number, other_out)


def do_jobs_clash(one, other):
    number, begin = one[2], one[3]
    other_number, other_begin = other[2], other[3]
    return number == other_number or is_out_of_order(number, begin, other_number, other_begin)


def do_job_and_ask_clash(job, ask):
    number, begin, end = job[2], job[3], job[4]
    made_in, out, back = ask[3], ask[5], ask[6]
    if number <= made_in and begin >= out:
        return True
    return number == made_in and end <= back


def does_all_row_clash(all_row, other):
    asks, jobs = all_row[2], all_row[3]
    if other[0] == "ask":
        return other[2] >= asks or other[3] >= jobs
    return other[2] >= jobs


def do_alike_sorts_clash(one, other):
    if one[0] == "ask":
        return do_asks_clash(one, other)
    if one[0] == "job":
        return do_jobs_clash(one, other)
    return True


def do_clash(one, other):
    """Whether two rows of a town clash."""
    if one[1] != other[1] or one == other:
        return False
    if one[0] == other[0]:
        return do_alike_sorts_clash(one, other)
    if one[0] == "all":
        return does_all_row_clash(one, other)
    if other[0] == "all":
        return does_all_row_clash(other, one)
    if one[0] == "job":
        return do_job_and_ask_clash(one, other)
    return do_job_and_ask_clash(other, one)


def need_rows(town, rows):
    for number, thing in enumerate(rows):
        if not is_row(town, thing):
            raise NoRow(number)


def need_book(town, rows):
    """None of a book; of other lists NoRow, then Clash is raised."""
    # All are looked at as rows first: NoRow goes ahead of whatever clashes.
    need_rows(town, rows)
    for second in range(len(rows)):
        for first in range(second):
            if do_clash(rows[first], rows[second]):
                raise Clash(first, second)

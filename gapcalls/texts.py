"""Rows, towns and books written as texts, and read (point 22 of the document)."""

from gapcalls.clash import need_book
from gapcalls.errors import NoText
from gapcalls.rows import is_row, is_town

FIGURES = "0123456789"
# A number of more figures is beyond all bounds, and perhaps longer than Python reads.
MOST_FIGURES = 13


def read_number(word):
    """The number that is written so; None of what is no number, or is beyond all bounds."""
    figures = word.removeprefix("-")
    if not 1 <= len(figures) <= MOST_FIGURES or not all(sign in FIGURES for sign in figures):
        return None
    if figures.startswith("0") and word != "0":
        return None
    return int(word)


def read_thing(word):
    number = read_number(word)
    return word if number is None else number


def read_row(town, text):
    """The row of the town that is written so, or None."""
    row = tuple([read_thing(word) for word in text.split(" ")])
    return row if is_row(town, row) else None


def read_town(text):
    """The town that is written so, or None."""
    words = text.split(" ")
    houses = tuple([word.removesuffix("+") for word in words])
    gates = tuple([word.removesuffix("+") for word in words if word.endswith("+")])
    return (houses, gates) if is_town((houses, gates)) else None


def show_row(row):
    """The text of a row."""
    return " ".join([str(thing) for thing in row])


def show_town(town):
    houses, gates = town
    return " ".join([house + "+" if house in gates else house for house in houses])


def show_book(town, rows):
    """The text of a book: the town's row and one for each row, each ended by a line feed."""
    need_book(town, rows)
    texts = [show_town(town)] + [show_row(row) for row in rows]
    return "".join([text + "\n" for text in texts])


def read_book(text):
    """(town, rows) of a book's text; NoText, then Clash is raised of others."""
    *texts, rest = text.split("\n")
    town = read_town(texts[0]) if texts else None
    if town is None:
        raise NoText(0)
    rows = [read_row(town, one) for one in texts[1:]]
    if None in rows:
        raise NoText(1 + rows.index(None))
    # What stands behind the last line feed lacks its own.
    if rest:
        raise NoText(len(texts))
    need_book(town, rows)
    return (town, rows)

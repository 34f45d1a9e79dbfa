"""The desk, which is told rows of text and answers with texts (point 23 of the document)."""

from gapcalls.errors import NoLine
from gapcalls.keeper import Keeper
from gapcalls.questions import questions
from gapcalls.rows import is_number
from gapcalls.standing import who_led
from gapcalls.tellings import how_many
from gapcalls.texts import read_number, read_row, read_town
from gapcalls.whole import whole


def name_of(one):
    house, number = one
    return f"{house}.{number}"


def names_of(some):
    return " ".join([name_of(one) for one in some])


def show_pairs(pairs):
    return " ".join([f"{name_of(ask)}>{name_of(job)}" for ask, job in pairs]) if pairs else "none"


def tell_must(keeper):
    return show_pairs(keeper.must())


def tell_may(keeper):
    return show_pairs(keeper.may())


def tell_whole(keeper):
    told = whole(keeper.town, keeper.rows())
    if told[0] == "whole":
        return "yes"
    return f"short {told[1]} {names_of(told[2])}"


def tell_count(keeper):
    return str(how_many(keeper.town, keeper.rows()))


def tell_questions(keeper):
    return str(questions(keeper.town, keeper.rows())[0])


def take_row(keeper, text):
    row = read_row(keeper.town, text)
    if row is None:
        raise NoLine("this is no row of the town")
    keeper.come(row)
    return "ok"


def tell_who(keeper, text):
    house, blank, figures = text.partition(" ")
    number = read_number(figures)
    if house not in keeper.town[0] or not is_number(number):
        raise NoLine("this is no job of the town")
    asks = who_led(keeper.town, keeper.rows(), (house, number))
    return " ".join(["-" if ask is None else name_of(ask) for ask in asks])


ANSWERS = {
    "must": tell_must, "may": tell_may, "whole": tell_whole, "count": tell_count, "questions": tell_questions}
ANSWERS_TO_MORE = {"row": take_row, "who": tell_who}


class Desk:
    """A desk, at which at first no town stands."""

    def __init__(self):
        self.keeper = None

    def say(self, row):
        """Tells the desk a row, and what it answers; NoLine is raised of what is none of its rows."""
        word, blank, rest = row.partition(" ")
        if word == "town":
            return self.take_town(rest)
        if self.keeper is None:
            raise NoLine("no town stands here yet")
        if row in ANSWERS:
            answer = ANSWERS[row]
            return answer(self.keeper)
        if word in ANSWERS_TO_MORE:
            answer_to_more = ANSWERS_TO_MORE[word]
            return answer_to_more(self.keeper, rest)
        raise NoLine("this is none of the desk's rows")

    def take_town(self, text):
        town = read_town(text)
        if town is None:
            raise NoLine("this is no town")
        self.keeper = Keeper(town)
        return "ok"

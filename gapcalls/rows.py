"""Houses, times, towns and the rows of a town (points 4 and 5 of the document)."""

LETTERS = "abcdefghijklmnopqrstuvwxyz"
MOST_LETTERS = 8
MOST_HOUSES = 6
MOST_TIME = 10 ** 12
MOST_NUMBER = 14
MOST_COUNT = 15


def is_whole_from(thing, low, high):
    # Python takes True and False for ints; here they are no whole numbers.
    if isinstance(thing, bool) or not isinstance(thing, int):
        return False
    return low <= thing <= high


def is_time(thing):
    return is_whole_from(thing, -MOST_TIME, MOST_TIME)


def is_number(thing):
    return is_whole_from(thing, 0, MOST_NUMBER)


def is_count(thing):
    return is_whole_from(thing, 0, MOST_COUNT)


def is_house(thing):
    if not isinstance(thing, str) or not 1 <= len(thing) <= MOST_LETTERS:
        return False
    return all(sign in LETTERS for sign in thing)


def is_rising(things):
    return all(things[at] < things[at + 1] for at in range(len(things) - 1))


def are_rising_houses(thing):
    if not isinstance(thing, tuple) or not all(is_house(house) for house in thing):
        return False
    return is_rising(thing)


def is_town(thing):
    """Whether anything is a town."""
    if not isinstance(thing, tuple) or len(thing) != 2:
        return False
    houses, gates = thing
    if not are_rising_houses(houses) or not are_rising_houses(gates):
        return False
    return 1 <= len(houses) <= MOST_HOUSES and all(gate in houses for gate in gates)


def is_span(low, high):
    return is_time(low) and is_time(high) and low <= high


def is_ask_row(houses, thing):
    if len(thing) != 7:
        return False
    word, house, number, job, asked, out, back = thing
    if word != "ask" or house not in houses or asked not in houses:
        return False
    return is_number(number) and is_number(job) and is_span(out, back)


def is_job_row(houses, thing):
    if len(thing) != 5:
        return False
    word, house, number, begin, end = thing
    if word != "job" or house not in houses:
        return False
    return is_number(number) and is_span(begin, end)


def is_all_row(houses, thing):
    if len(thing) != 4:
        return False
    word, house, asks, jobs = thing
    if word != "all" or house not in houses:
        return False
    return is_count(asks) and is_count(jobs)


def is_row(town, thing):
    """Whether anything is a row of the town."""
    if not isinstance(thing, tuple):
        return False
    houses = town[0]
    return is_ask_row(houses, thing) or is_job_row(houses, thing) or is_all_row(houses, thing)

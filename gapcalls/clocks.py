"""Shifts of the houses' clocks by which pairs are in time, or a ring of links that clash (points 19 and 20)."""

from gapcalls.errors import OffTime
from gapcalls.gaps import gaps_of


def links_of(town, rows, pairs):
    """The links (one, other, most) that come of pairs: the one's shift less the other's is at most this."""
    gaps = gaps_of(town, rows)
    links = []
    for ask, job in pairs:
        word, house, number, made_in, asked, out, back = gaps.ask_rows[ask]
        begin, end = gaps.job_rows[job][3], gaps.job_rows[job][4]
        links.append((house, asked, begin - out))
        links.append((asked, house, back - end))
    return links


def tighten(links, sums, via):
    """Lowers each one's sum to what a link allows; tells the last house whose sum was lowered, or None.

    A sum is that of links, one behind the other; via is the first of them.
    """
    lowered = None
    for link in links:
        one, other, most = link
        if other in sums and (one not in sums or sums[other] + most < sums[one]):
            sums[one] = sums[other] + most
            via[one] = link
            lowered = one
    return lowered


def way_from(house, end, via):
    """The links one behind the other from the house to the end, never none."""
    way = [via[house]]
    while way[-1][1] != end:
        way.append(via[way[-1][1]])
    return way


def settle(houses, links):
    """Shifts that keep to all links, and []; or, where there are none, whatever they came to, and a ring."""
    sums = {house: 0 for house in houses}
    via = {}
    lowered = None
    for turn in houses:
        lowered = tighten(links, sums, via)
    if lowered is None:
        return (sums, [])
    # No sum falls so long but around a ring; from the house whose sum fell last the links lead into it.
    house = lowered
    for turn in houses:
        house = via[house][1]
    return (sums, way_from(house, house, via))


def in_time(town, rows, pairs, shifts):
    """Whether pairs are in time by a dict from texts to whole numbers."""
    links = links_of(town, rows, pairs)
    if sorted(shifts) != list(town[0]):
        return False
    return all(shifts[one] - shifts[other] <= most for one, other, most in links)


def is_ring(town, rows, pairs, links):
    """Whether a list of tuples (text, text, whole number) is a ring of links that come of the pairs."""
    own = {link: True for link in links_of(town, rows, pairs)}
    if not links or not all(link in own for link in links):
        return False
    # The link of number -1 is the last one: behind it the first one follows.
    if not all(links[at - 1][1] == links[at][0] for at in range(len(links))):
        return False
    return sum(most for one, other, most in links) < 0


def shifts(town, rows, pairs):
    """("shifts", dict) by which the pairs are in time, or ("ring", links) where there are none."""
    sums, ring = settle(town[0], links_of(town, rows, pairs))
    return ("ring", ring) if ring else ("shifts", sums)


def greatest(town, rows, pairs, one, other):
    """(number, links): the greatest that the one's shift less the other's may be; None where nothing bounds it."""
    links = links_of(town, rows, pairs)
    sums, ring = settle(town[0], links)
    if ring:
        raise OffTime(ring)
    if one == other:
        return (0, [])
    bounds = {other: 0}
    via = {}
    for turn in town[0]:
        tighten(links, bounds, via)
    return (bounds[one], way_from(one, other, via)) if one in bounds else None

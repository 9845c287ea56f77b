"""A line's scansions by a metre, one by one: the n-th, the cheapest, and what it takes to mend the line."""

from versescan.offers import offers_of
from versescan.paths import ending_tables, least_of
from versescan.picking import pick_path
from versescan.refusals import NoneThere
from versescan.track import Track


# One scansion, with how many cost as little as it (or, if costs don't matter, how many there are).
class Scansion:
    def __init__(self, count, path, metre):
        self.count = count
        self.syllables = path[0]
        self.ways = path[1]
        self.cost = sum([ways[self.ways[place]].cost for place, ways in enumerate(metre.places)])


def find_scansion(line, metre, number, by_cost):
    offers = offers_of(line, False)
    track = Track(metre, by_cost)
    tables = ending_tables(offers, track)
    least = least_of(tables)
    if least is None or number >= least[1]:
        raise NoneThere()
    return Scansion(least[1], pick_path(offers, track, tables, number), metre)


def nth_scansion(line, metre, number):
    return find_scansion(line, metre, number, False)


def cheapest_scansion(line, metre):
    return find_scansion(line, metre, 0, True)


def fewest_mends(line, metre):
    least = least_of(ending_tables(offers_of(line, True), Track(metre, False)))
    if least is None:
        raise NoneThere()
    return least[0]

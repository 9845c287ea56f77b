"""Metres: how they are read, and when they are as told."""

from versescan.line import ANY
from versescan.refusals import NotAsTold

MOST_PLACES = 8
MOST_WAYS = 3
MOST_COST = 100
LONGEST_ROW = 4
MOST_CUTS = 4
MOST_SPOTS = 6

# A word's end where none may be: a bit beyond those of the cuts that must be.
BANNED = 16


class Way:
    def __init__(self, cost, row):
        self.cost = cost
        self.row = row


# Its spots are pairs: a place, and which syllable of it, from 1.
class Cut:
    def __init__(self, must_be, spots):
        self.must_be = must_be
        self.spots = spots


# The cuts that must be have a bit each. gains tells of each place and each syllable of it, from 0, the bits that a
# word's end there gains: those of the cuts that it meets, and BANNED.
class Metre:
    def __init__(self, places, cuts):
        self.places = places
        self.all_met = 0
        self.gains = [[0] * LONGEST_ROW for place in places]
        for cut in cuts:
            gain = BANNED
            if cut.must_be:
                gain = self.all_met + 1
                self.all_met += gain
            for spot in cut.spots:
                self.gains[spot[0]][spot[1] - 1] |= gain


def read_way(reader):
    cost = reader.take()
    return Way(cost, reader.take_row())


def read_place(reader):
    return [read_way(reader) for way in range(reader.take())]


def read_spot(reader):
    place = reader.take()
    return (place, reader.take())


def read_cut(reader):
    must_be = reader.take() == 1
    return Cut(must_be, [read_spot(reader) for spot in range(reader.take())])


def way_is_as_told(way):
    if way.cost > MOST_COST or len(way.row) > LONGEST_ROW:
        return False
    return all([1 <= member and member <= ANY for member in way.row])


def places_are_as_told(places):
    if len(places) < 1 or len(places) > MOST_PLACES:
        return False
    for ways in places:
        if len(ways) < 1 or len(ways) > MOST_WAYS:
            return False
        if not all([way_is_as_told(way) for way in ways]):
            return False
    return True


def cuts_are_as_told(cuts, place_count):
    if len(cuts) > MOST_CUTS:
        return False
    for cut in cuts:
        if len(cut.spots) > MOST_SPOTS:
            return False
        for spot in cut.spots:
            if spot[0] >= place_count or spot[1] < 1 or spot[1] > LONGEST_ROW:
                return False
    return True


def read_metre(reader):
    places = [read_place(reader) for place in range(reader.take())]
    cuts = [read_cut(reader) for cut in range(reader.take())]
    if not places_are_as_told(places) or not cuts_are_as_told(cuts, len(places)):
        raise NotAsTold()
    return Metre(places, cuts)

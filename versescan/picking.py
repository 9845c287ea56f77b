"""The n-th of the paths that cost the least, in the order of their rows, picked number by number of its row.

A row tells all syllables before any way. So first the syllables are picked, for all ways together; then the ways, of
those paths alone that make the syllables just so.
"""

from versescan.metre import BANNED
from versescan.offers import pinned
from versescan.paths import count_least, ending_tables, front_behind, least_of, met_behind, spread_over_forks

HIGHEST_VALUE = 3


# The numbers picked, and how many of the paths that begin with them come before the one that is sought.
class Picked:
    def __init__(self, ahead):
        self.numbers = []
        self.ahead = ahead


# Where a path stands at a fork: the syllable that is to come, the cuts met, what it has cost.
class Stand:
    def __init__(self, syllable, met, cost):
        self.syllable = syllable
        self.met = met
        self.cost = cost


def pick_values(offers, track, tables, ahead):
    least = least_of(tables)[0]
    picked = Picked(ahead)
    front = spread_over_forks({(0, 0): (0, 1)}, track)
    for index, offer in enumerate(offers):
        for value in range(HIGHEST_VALUE + 1):
            behind = front_behind(front, offer, value, track)
            count = count_least(behind, tables[index + 1], least)
            if picked.ahead < count:
                break
            picked.ahead -= count
        picked.numbers.append(value)
        front = behind
    return picked


# Where a path stands behind a way; None if its row can't be filled. Of the offers none runs together.
def stand_behind(stand, branch, offers, track):
    behind = Stand(stand.syllable, stand.met, stand.cost + branch[0])
    node = branch[1]
    while node > track.goal:
        if behind.syllable == len(offers):
            return None
        step = track.step_at(node)
        offer = offers[behind.syllable]
        behind.met = met_behind(behind.met, step, offer)
        if offer.taken[step.member] == 0 or behind.met >= BANNED:
            return None
        behind.syllable += 1
        node = step.after
    return behind


def count_from(stand, place, tables, least):
    if stand is None:
        return 0
    return count_least({(place, stand.met): (stand.cost, 1)}, tables[stand.syllable], least)


def pick_ways(offers, track, ahead):
    tables = ending_tables(offers, track)
    least = least_of(tables)[0]
    picked = Picked(ahead)
    stand = Stand(0, 0, 0)
    for place, fork in enumerate(track.forks):
        for way, branch in enumerate(fork):
            behind = stand_behind(stand, branch, offers, track)
            count = count_from(behind, place + 1, tables, least)
            if picked.ahead < count:
                break
            picked.ahead -= count
        picked.numbers.append(way)
        stand = behind
    return picked.numbers


# A pair: what the syllables are, and the ways.
def pick_path(offers, track, tables, ahead):
    values = pick_values(offers, track, tables, ahead)
    counting = [pinned(offer, values.numbers[index]) for index, offer in enumerate(offers) if values.numbers[index] > 0]
    return (values.numbers, pick_ways(counting, track, values.ahead))

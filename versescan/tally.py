"""How many scansions a line has, for all its beginnings at once.

One whole number holds a lane of bits for each syllable of the line: in the lane of a syllable stands in how many ways
all that's before it can be used up. So one shift goes on from every syllable together.
"""

from versescan.line import ANY, MAY_JOIN, MUST_JOIN, taken_as
from versescan.metre import BANNED

# Six syllables that may run together and eight places of three ways have 64 * 6561 scansions: less than LANE_ONES.
LANE = 20
LANE_ONES = 1048575


# A line's lanes. Syllables that must run together have none: they neither count nor tell a word's end.
class Lanes:
    def __init__(self, line):
        kept = [index for index in range(len(line.joins)) if line.joins[index] != MUST_JOIN]
        self.last = LANE * len(kept)
        self.may_join = lanes_where([line.joins[index] == MAY_JOIN for index in kept])
        ending = lanes_where([line.ends[index] == 1 for index in kept])
        self.fitting = [0]
        for member in range(1, ANY + 1):
            self.fitting.append(lanes_where([taken_as(line.weights[index], member) > 0 for index in kept]))
        self.fitting_ends = [lanes & ending for lanes in self.fitting]
        self.fitting_within = [lanes & ~ending for lanes in self.fitting]


def lanes_where(truths):
    lanes = 0
    for index, truth in enumerate(truths):
        if truth:
            lanes |= LANE_ONES << (LANE * index)
    return lanes


# Adds the lanes that are reached by letting syllables run together.
def with_joined(ahead, may_join):
    moved = (ahead & may_join) << LANE
    while moved:
        ahead += moved
        moved = (moved & may_join) << LANE
    return ahead


def add_lanes(tallies, met, ahead):
    if ahead:
        tallies[met] = tallies.get(met, 0) + ahead


def past_member(tallies, lanes, member, gain):
    after = {}
    for met, ahead in tallies.items():
        if gain == 0:
            add_lanes(after, met, with_joined((ahead & lanes.fitting[member]) << LANE, lanes.may_join))
            continue
        within = (ahead & lanes.fitting_within[member]) << LANE
        add_lanes(after, met, with_joined(within, lanes.may_join))
        if gain < BANNED:
            ends = (ahead & lanes.fitting_ends[member]) << LANE
            add_lanes(after, met | gain, with_joined(ends, lanes.may_join))
    return after


def past_place(tallies, lanes, ways, gains):
    after = {}
    for way in ways:
        filled = tallies
        for index, member in enumerate(way.row):
            filled = past_member(filled, lanes, member, gains[index])
        for met, ahead in filled.items():
            add_lanes(after, met, ahead)
    return after


def count_scansions(lanes, metre):
    tallies = {0: with_joined(1, lanes.may_join)}
    for place, ways in enumerate(metre.places):
        tallies = past_place(tallies, lanes, ways, metre.gains[place])
    return tallies.get(metre.all_met, 0) >> lanes.last

"""The paths of a line along a metre's track that cost the least: how many, and the n-th of them.

A path is at a node, with some of the cuts met. What is known of all paths there is a pair: the least cost, and how
many have it. Where nothing costs anything, all paths cost the least.
"""

from versescan.metre import BANNED


def add_paths(known, key, cost, count):
    old = known.get(key)
    if old is None or cost < old[0]:
        known[key] = (cost, count)
    elif cost == old[0]:
        known[key] = (cost, old[1] + count)


def met_behind(met, step, offer):
    return met | step.gain if offer.word_ends else met


# The endings of paths at a step: staying there if the syllable runs together, else going on behind it.
def step_endings(step, offer, staying, behind, all_met):
    endings = {}
    if offer.may_join:
        endings.update(staying)
    if offer.taken[step.member] > 0:
        price = offer.prices[step.member]
        for met in range(all_met + 1):
            ending = behind.get(met_behind(met, step, offer))
            if ending is not None:
                add_paths(endings, met, ending[0] + price, ending[1])
    return endings


def fork_endings(fork, table):
    endings = {}
    for branch in fork:
        for met, ending in table[branch[1]].items():
            add_paths(endings, met, ending[0] + branch[0], ending[1])
    return endings


def fill_forks(table, track):
    # An empty row leads to the fork behind, so that one has to be filled in first.
    for place in range(track.goal - 1, -1, -1):
        table[place] = fork_endings(track.forks[place], table)


def last_table(track):
    table = [{} for node in range(track.node_count())]
    table[track.goal][track.all_met] = (0, 1)
    fill_forks(table, track)
    return table


def table_before(offer, later, track):
    table = [{} for fork in range(track.goal + 1)]
    for index, step in enumerate(track.steps):
        staying = later[track.goal + 1 + index]
        table.append(step_endings(step, offer, staying, later[step.after], track.all_met))
    fill_forks(table, track)
    return table


# Of each syllable, and of the line's end, a table: of each node, by the cuts met, the paths from there on.
def ending_tables(offers, track):
    tables = [last_table(track)]
    for offer in reversed(offers):
        tables.append(table_before(offer, tables[-1], track))
    tables.reverse()
    return tables


# The pair of all paths, or None if there are none.
def least_of(tables):
    return tables[0][0].get(0)


# Takes all paths that stand at a fork along each of its ways.
def spread_over_forks(front, track):
    for place in range(track.goal):
        for met in range(track.all_met + 1):
            path = front.pop((place, met), None)
            if path is not None:
                for branch in track.forks[place]:
                    add_paths(front, (branch[1], met), path[0] + branch[0], path[1])
    return front


# The paths, by node and cuts met, behind a syllable that is this value, at no price.
def front_behind(front, offer, value, track):
    if value == 0:
        return front if offer.may_join else {}
    behind = {}
    for state, path in front.items():
        if state[0] == track.goal:
            continue
        step = track.step_at(state[0])
        met = met_behind(state[1], step, offer)
        if offer.taken[step.member] == value and met < BANNED:
            add_paths(behind, (step.after, met), path[0], path[1])
    return spread_over_forks(behind, track)


def count_least(front, table, least):
    count = 0
    for state, path in front.items():
        ending = table[state[0]].get(state[1])
        if ending is not None and path[0] + ending[0] == least:
            count += path[1] * ending[1]
    return count

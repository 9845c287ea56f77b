"""A metre laid out as a track: numbered nodes that a scansion goes through.

There is a fork at each place, where a way is taken, and a step for each member of each way's row, which one syllable
fills. Forks are numbered as their places are; the one behind the last place is the goal. Steps come behind it.
"""


class Step:
    def __init__(self, member, gain, after):
        self.member = member
        self.gain = gain
        self.after = after


# forks tells of each place, of each way, a pair: what it costs, and the node that it leads to.
class Track:
    def __init__(self, metre, with_costs):
        self.all_met = metre.all_met
        self.goal = len(metre.places)
        self.steps = []
        self.forks = []
        for place, ways in enumerate(metre.places):
            fork = []
            for way in ways:
                node = self.lay_row(way.row, metre.gains[place], place + 1)
                fork.append((way.cost if with_costs else 0, node))
            self.forks.append(fork)

    def node_count(self):
        return self.goal + 1 + len(self.steps)

    def step_at(self, node):
        return self.steps[node - self.goal - 1]

    # Lays the row's steps; answers the first one's node, or for an empty row the fork behind it.
    def lay_row(self, row, gains, fork_behind):
        first = self.node_count() if row else fork_behind
        for index, member in enumerate(row):
            after = fork_behind if index == len(row) - 1 else self.node_count() + 1
            self.steps.append(Step(member, gains[index], after))
        return first

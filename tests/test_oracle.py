"""Many small lists of calls, the same at each run, against the plain trial of everything in oracle.py."""

import random
import unittest

from asking import ask
from oracle import Oracle, fewest_mends, scansions
from samples import bad_lines, bad_metres

NAMES = ("scans", "scan", "cheapest", "which", "mends", "poem", "forms")


def some_metre(dice, most_places=3):
    places = []
    for place in range(dice.randint(1, most_places)):
        rows = [[dice.choice((1, 2, 3, 3)) for member in range(dice.randint(0, 3))] for way in range(dice.randint(1, 3))]
        places.append([(dice.randint(0, 3), row) for row in rows])
    cuts = []
    for cut in range(dice.choice((0, 0, 1, 1, 2, 4))):
        spots = [(dice.randrange(len(places)), dice.randint(1, 3)) for spot in range(dice.choice((0, 1, 2, 3, 3, 6)))]
        cuts.append((dice.randint(0, 1), spots))
    return (places, cuts)


def some_line(dice, size):
    line = [[dice.choice((1, 2, 3, 3)), dice.choice((0, 0, 0, 1, 2)), dice.randint(0, 1)] for syllable in range(size)]
    line[-1][1] = 0
    return line


def filling_line(dice, metre, longest):
    """A line that fills some choice of ways, if its cuts let it, with a few more that run together."""
    line = []
    for ways in metre[0]:
        for member in dice.choice(ways)[1]:
            if dice.random() < 0.25:
                line.append([dice.randint(1, 3), dice.choice((1, 2)), dice.randint(0, 1)])
            line.append([dice.choice((member, 3)), dice.choice((0, 0, 2)), dice.randint(0, 1)])
    line = line[:longest] or [[3, 0, 1]]
    line[-1][1] = 0
    return line


def line_for(dice, metres, longest):
    if metres and dice.random() < 0.8:
        return filling_line(dice, dice.choice(metres), longest)
    return some_line(dice, dice.randint(1, longest))


def some_call(dice, metres):
    name = dice.choice(NAMES)
    k = dice.randint(0, len(metres)) if dice.random() < 0.1 else dice.randrange(max(1, len(metres)))
    if name == "scan":
        return (name, k, dice.randint(0, 6), line_for(dice, metres, 7))
    if name == "which":
        return (name, line_for(dice, metres, 7))
    if name == "poem":
        form = [dice.randrange(max(1, len(metres))) for metre in range(dice.choice((0, 1, 1, 2, 2, 3)))]
        return (name, form, [line_for(dice, metres, 5) for line in range(dice.randint(0, 4))])
    if name == "forms":
        return (name, [line_for(dice, metres, 5) for line in range(dice.randint(0, 4))])
    return (name, k, line_for(dice, metres, 4 if name == "mends" else 7))


def some_calls(dice):
    calls = []
    metres = []
    for number in range(dice.randint(2, 20)):
        chance = dice.random()
        if chance < 0.03:
            metres = []
            calls.append(("begins",))
        elif chance < 0.06:
            calls.append(("metre", dice.choice(list(bad_metres().values()))))
        elif chance < 0.09:
            calls.append(("which", dice.choice(list(bad_lines().values()))))
        elif chance < 0.25 or number == 0:
            metres.append(some_metre(dice))
            calls.append(("metre", metres[-1]))
        else:
            calls.append(some_call(dice, metres[:8]))
    return calls


class AgainstOracle(unittest.TestCase):
    def test_lists_of_calls(self):
        for seed in range(600):
            calls = some_calls(random.Random(seed))
            oracle = Oracle()
            expected = [oracle.answer(call) for call in calls]
            self.assertEqual(ask(*calls), expected, (seed, calls))

    def test_every_scansion_in_order(self):
        asked = 0
        for seed in range(400):
            dice = random.Random(seed)
            metre = some_metre(dice, 4)
            line = filling_line(dice, metre, 10)
            found = scansions(line, metre)[:50]
            asked += len(found)
            answers = ask(("metre", metre), *[("scan", 0, n, line) for n in range(len(found))])[1:]
            size = len(line)
            told = [(tuple(answer[2:2 + size] + answer[3 + size:-2]), answer[-1]) for answer in answers]
            self.assertEqual(told, found, (seed, metre, line))
        # That the lines do scan, several ways each, or this would tell little.
        self.assertGreater(asked, 1000)

    def test_mends(self):
        several = 0
        for seed in range(800):
            dice = random.Random(seed)
            metre = some_metre(dice, 4)
            line = [[dice.randint(1, 2), join, end] for weight, join, end in filling_line(dice, metre, 7)]
            fewest = fewest_mends(line, metre)
            several += fewest is not None and fewest > 1
            self.assertEqual(ask(("metre", metre), ("mends", 0, line))[1], [-6 if fewest is None else fewest], seed)
        self.assertGreater(several, 20)


if __name__ == "__main__":
    unittest.main()

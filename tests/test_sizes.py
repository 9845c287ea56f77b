"""The greatest sizes that the document names, with answers that are known by counting."""

import math
import unittest

from asking import apart, ask, call_numbers, desk_list, verse
from samples import ANY, HIGHEST
from versescan.desk import answers

# 24 syllables, 6 of which may run together.
WIDE = verse("E~|EEE" * 6)
WIDE_TOGETHER = verse("E" * 9 + "E~|" * 6 + "E" * 9)


def wide_metre(sizes, cuts=(), member=ANY):
    """8 places of 3 ways."""
    costs = (0, 1, 100)
    return ([[(cost, [member] * size) for cost, size in zip(costs, sizes)]] * 8, list(cuts))


def choices_by_length(sizes):
    """Of each number of syllables in how many ways 8 places have it."""
    counts = {0: 1}
    for place in range(8):
        after = {}
        for length, count in counts.items():
            for size in sizes:
                after[length + size] = after.get(length + size, 0) + count
        counts = after
    return counts


def expected_count(sizes):
    choices = choices_by_length(sizes)
    return sum(math.comb(6, joined) * choices.get(24 - joined, 0) for joined in range(7))


def rows_of(metre, line, numbers):
    found = ask(("metre", metre), *[("scan", 0, n, line) for n in numbers])[1:]
    size = len(line)
    return [(answer[2:2 + size], answer[3 + size:-2]) for answer in found]


class Counting(unittest.TestCase):
    SIZES = ((2, 3, 4), (3, 3, 3), (0, 3, 4), (0, 4, 4), (2, 2, 3), (1, 4, 4), (4, 4, 4))

    def test_scans(self):
        for line in (WIDE, WIDE_TOGETHER):
            for sizes in self.SIZES:
                with self.subTest(sizes):
                    found = ask(("metre", wide_metre(sizes)), ("scans", 0, line))
                    self.assertEqual(found[1], [expected_count(sizes)])

    def test_very_many(self):
        # One place takes what is left over, so that all the others have three ways alike.
        places = [[(0, [ANY] * 3)] * 3] * 7 + [[(0, []), (0, [ANY]), (0, [ANY] * 2)]]
        count = 3 ** 7 * (math.comb(6, 3) + math.comb(6, 2) + math.comb(6, 1))
        self.assertEqual(
            ask(("metre", (places, [])), ("scans", 0, WIDE), ("poem", [0], [WIDE_TOGETHER]), ("scan", 0, count, WIDE))[1:],
            [[count], [1, 1, count], [-6]],
        )

    def test_four_cuts(self):
        # Every syllable ends a word, so every spot that a way reaches has a word's end.
        line = [[weight, join, 1] for weight, join, end in WIDE]
        reached = [(1, [(place, 1) for place in range(6)])] * 4
        self.assertEqual(
            ask(("metre", wide_metre((2, 3, 4), reached)), ("scans", 0, line))[1], [expected_count((2, 3, 4))]
        )
        # At none of the places the way of four.
        short = [(0, [(place, 4) for place in range(4)]), (0, [(place, 4) for place in range(4, 8)])]
        self.assertEqual(
            ask(("metre", wide_metre((2, 3, 4), short + [(0, []), (0, [])])), ("scans", 0, line))[1],
            [expected_count((2, 3))],
        )


class Picking(unittest.TestCase):
    def test_the_first_and_the_last(self):
        sizes = (2, 3, 4)
        last = expected_count(sizes) - 1
        found = rows_of(wide_metre(sizes), WIDE, [0, last])
        # As many as may run together, then the short rows first: 18 syllables, two more than eight rows of 2.
        self.assertEqual(found[0], ([0, 3, 3, 3] * 6, [0] * 7 + [2]))
        # None runs together: 24 syllables, the long rows first.
        self.assertEqual(found[1], ([3] * 24, [2] * 4 + [0] * 4))
        self.assertEqual(ask(("metre", wide_metre(sizes)), ("scan", 0, last + 1, WIDE))[1], [-6])
        self.assertEqual(ask(("metre", wide_metre(sizes)), ("scan", 0, HIGHEST, WIDE))[1], [-6])

    def test_rising(self):
        sizes = (0, 3, 4)
        count = expected_count(sizes)
        metre = wide_metre(sizes)
        numbers = sorted({count * part // 50 for part in range(50)} | {count - 1})
        found = rows_of(metre, WIDE_TOGETHER, numbers)
        self.assertEqual(found, sorted(found))
        self.assertEqual(len(numbers), len({str(row) for row in found}))
        for syllables, ways in found:
            taken = sum(len(metre[0][place][way][1]) for place, way in enumerate(ways))
            self.assertEqual(syllables.count(0) + taken, 24)

    def test_cheapest(self):
        # 24 syllables, none running together, or fewer: eight rows of 3 cost 8, rows of 2 cost nothing but are too short.
        found = ask(("metre", wide_metre((2, 3, 4))), ("cheapest", 0, WIDE))[1]
        # 18 syllables count: two of the eight rows are of 3.
        self.assertEqual(found, [math.comb(8, 2), 1, 2, 24] + [0, 3, 3, 3] * 6 + [8] + [0] * 6 + [1, 1])

    def test_mends(self):
        heavy = [[1, join, end] for weight, join, end in WIDE]
        found = ask(("metre", wide_metre((2, 3, 4), (), 2)), ("mends", 0, heavy), ("mends", 0, WIDE))[1:]
        self.assertEqual(found, [[18], [0]])


class Lists(unittest.TestCase):
    def test_60_calls_with_8_metres(self):
        sizes = ((2, 3, 4), (3, 3, 3), (0, 3, 4), (0, 4, 4), (2, 2, 3), (1, 4, 4), (4, 4, 4), (0, 0, 4))
        cuts = [(1, [(place, 1 + place % 4) for place in range(first, first + 6)]) for first in range(3)]
        metres = [("metre", wide_metre(size, cuts)) for size in sizes]
        asked = []
        for number in range(13):
            line = WIDE if number % 2 else WIDE_TOGETHER
            asked += [("scan", number % 8, 0, line), ("cheapest", number % 8, line), ("mends", number % 8, line)]
            asked += [("which", line)]
        calls = metres + asked
        self.assertEqual(len(calls), 60)
        self.assertEqual(len(ask(*calls)), 60)

    def test_many_long_poems(self):
        sizes = ((2, 3, 4), (3, 3, 3), (0, 3, 4), (0, 4, 4), (2, 2, 3), (1, 4, 4), (0, 0, 4), (4, 4, 4))
        metres = [("metre", wide_metre(size, [(0, [(7, 4)]), (1, [(0, 1), (1, 1)])])) for size in sizes]
        lines = [WIDE, WIDE_TOGETHER] * 10
        calls = metres + [("poem", list(range(8)), lines), ("forms", lines)] * 9
        numbers = desk_list(calls)
        self.assertLessEqual(len(numbers), 31000)
        found = apart(answers(numbers))
        self.assertEqual(found[8:10] * 9, found[8:])
        self.assertEqual([answer[1] for answer in found[8::2]], [20] * 9)

    def test_one_very_long_call(self):
        # 60 lines of 60 syllables are more than a poem has; the form is as long as it may be.
        lines = [verse("L" * 60)] * 60
        self.assertGreater(len(call_numbers(("poem", [0] * 60, lines))), 10000)
        metre = ("metre", ([[(0, [ANY])]], []))
        self.assertEqual(ask(metre, ("poem", [0] * 60, lines), ("poem", [1] * 60, lines), ("forms", lines))[1:], [[-1], [-2], [-1]])


if __name__ == "__main__":
    unittest.main()

"""Points 4 and 5: scans, scan, cheapest and mends, and what a line's scansions are."""

import unittest

from asking import ask, verse
from samples import ANY, HEAVY, HEXAMETER, HIGHEST, LIGHT, NOTHING, ONE_ANY, ONE_HEAVY, ONE_LIGHT, anys


def all_scansions(metre, line):
    """Asked one by one until there are no more: (syllables, ways, cost)."""
    count = ask(("metre", metre), ("scans", 0, line))[1][0]
    found = []
    for n in range(count):
        answer = ask(("metre", metre), ("scan", 0, n, line))[1]
        size = len(line)
        assert answer[:2] == [0, size] and answer[2 + size] == len(metre[0]) and answer[-2] == 1
        found.append((answer[2:2 + size], answer[3 + size:-2], answer[-1]))
    assert ask(("metre", metre), ("scan", 0, count, line))[1] == [-6]
    return found


def mends(metre, text):
    return ask(("metre", metre), ("mends", 0, verse(text)))[1]


class Filling(unittest.TestCase):
    def test_weights_and_members(self):
        expected = {
            ("L", LIGHT): 1, ("H", LIGHT): None, ("E", LIGHT): 1,
            ("L", HEAVY): None, ("H", HEAVY): 2, ("E", HEAVY): 2,
            ("L", ANY): 1, ("H", ANY): 2, ("E", ANY): 3,
        }
        for (weight, member), taken in expected.items():
            with self.subTest(weight=weight, member=member):
                found = all_scansions(([[(7, [member])]], []), verse(weight))
                self.assertEqual(found, [] if taken is None else [([taken], [0], 7)])

    def test_rows_one_behind_the_other(self):
        metre = ([[(1, [LIGHT, HEAVY])], [(2, [HEAVY])], [(4, [LIGHT, ANY])]], [])
        self.assertEqual(all_scansions(metre, verse("LHHLE")), [([1, 2, 2, 1, 3], [0, 0, 0], 7)])
        self.assertEqual(all_scansions(metre, verse("LHLHE")), [])

    def test_none_left_over_and_none_missing(self):
        for size, count in ((1, 0), (2, 1), (3, 0)):
            self.assertEqual(len(all_scansions(anys(2), verse("L" * size))), count)

    def test_empty_rows(self):
        metre = ([[(5, []), (1, [ANY])], [(0, []), (2, [ANY])], [(9, [])]], [])
        self.assertEqual(all_scansions(metre, verse("L")), [([1], [0, 1, 0], 16), ([1], [1, 0, 0], 10)])
        self.assertEqual(all_scansions(metre, verse("LL")), [([1, 1], [1, 1, 0], 12)])

    def test_nothing_but_empty_rows(self):
        self.assertEqual(all_scansions(NOTHING, verse("L")), [])

    def test_ways_alike_are_ways_of_their_own(self):
        metre = ([[(0, [ANY]), (0, [ANY])], [(0, []), (0, []), (0, [])]], [])
        self.assertEqual(
            [ways for syllables, ways, cost in all_scansions(metre, verse("H"))],
            [[0, 0], [0, 1], [0, 2], [1, 0], [1, 1], [1, 2]],
        )


class RunningTogether(unittest.TestCase):
    def test_must(self):
        self.assertEqual(all_scansions(anys(2), verse("L- H L")), [([0, 2, 1], [0], 0)])
        self.assertEqual(all_scansions(anys(3), verse("L- H L")), [])

    def test_must_several_in_a_row(self):
        self.assertEqual(all_scansions(ONE_HEAVY, verse("L- L- H")), [([0, 0, 2], [0], 0)])

    def test_may(self):
        self.assertEqual(all_scansions(anys(2), verse("L H~ L")), [([1, 0, 1], [0], 0)])
        self.assertEqual(all_scansions(anys(3), verse("L H~ L")), [([1, 2, 1], [0], 0)])

    def test_may_in_several_ways(self):
        self.assertEqual(
            [row for row, ways, cost in all_scansions(anys(2), verse("L~ H~ E~ L"))],
            [[0, 0, 3, 1], [0, 2, 0, 1], [1, 0, 0, 1]],
        )

    def test_its_weight_does_not_matter_then(self):
        self.assertEqual(all_scansions(ONE_LIGHT, verse("H~ L")), [([0, 1], [0], 0)])

    def test_must_and_may(self):
        self.assertEqual(
            [row for row, ways, cost in all_scansions(anys(2), verse("L- H~ E- L~ H"))],
            [[0, 0, 0, 1, 2], [0, 2, 0, 0, 2]],
        )


class Cuts(unittest.TestCase):
    TWO_PLACES = [[(0, [ANY, ANY])], [(0, [ANY])]]

    def assert_counts(self, places, cuts, counts):
        for text, count in counts.items():
            with self.subTest(text, cuts=cuts):
                self.assertEqual(ask(("metre", (places, cuts)), ("scans", 0, verse(text)))[1], [count])

    def test_must_be(self):
        self.assert_counts(self.TWO_PLACES, [(1, [(0, 2)])], {"LLL": 0, "L|LL": 0, "LL|L": 1, "LLL|": 0, "L|L|L|": 1})

    def test_must_be_at_one_of_several(self):
        cuts = [(1, [(0, 1), (1, 1)])]
        self.assert_counts(self.TWO_PLACES, cuts, {"LLL": 0, "L|LL": 1, "LL|L": 0, "LLL|": 1, "L|L|L|": 1})

    def test_must_not_be(self):
        self.assert_counts(self.TWO_PLACES, [(0, [(0, 2)])], {"LLL": 1, "L|LL": 1, "LL|L": 0, "LLL|": 1, "L|L|L|": 0})

    def test_must_not_be_at_any_of_several(self):
        cuts = [(0, [(0, 1), (1, 1)])]
        self.assert_counts(self.TWO_PLACES, cuts, {"LLL": 1, "L|LL": 0, "LL|L": 1, "LLL|": 0, "L|L|L|": 0})

    def test_no_spots(self):
        self.assert_counts(self.TWO_PLACES, [(1, [])], {"LLL": 0, "L|L|L|": 0})
        self.assert_counts(self.TWO_PLACES, [(0, [])], {"LLL": 1, "L|L|L|": 1})

    def test_spots_that_no_way_reaches(self):
        self.assert_counts(self.TWO_PLACES, [(1, [(0, 3), (1, 2)])], {"LLL": 0, "L|L|L|": 0})
        self.assert_counts(self.TWO_PLACES, [(0, [(0, 3), (1, 2)])], {"LLL": 1, "L|L|L|": 1})
        self.assert_counts(self.TWO_PLACES, [(1, [(0, 4), (1, 1)])], {"LLL": 0, "LLL|": 1})

    def test_same_spot_twice(self):
        self.assert_counts(self.TWO_PLACES, [(1, [(0, 1), (0, 1)])], {"LLL": 0, "L|LL": 1})

    def test_one_spot_of_two_cuts(self):
        self.assert_counts(self.TWO_PLACES, [(1, [(0, 1)]), (1, [(0, 1), (0, 2)])], {"LL|L": 0, "L|LL": 1})
        self.assert_counts(self.TWO_PLACES, [(1, [(0, 1)]), (0, [(0, 1)])], {"LLL": 0, "L|LL": 0})
        self.assert_counts(self.TWO_PLACES, [(0, [(0, 1)]), (1, [(0, 1), (0, 2)])], {"LL|L": 1, "L|L|L": 0})

    def test_four_cuts(self):
        places = [[(0, [ANY, ANY, ANY, ANY])]]
        cuts = [(1, [(0, 1)]), (1, [(0, 2)]), (1, [(0, 3)]), (1, [(0, 4)])]
        self.assert_counts(places, cuts, {"L|L|L|L|": 1, "LL|L|L|": 0, "L|LL|L|": 0, "L|L|LL|": 0, "L|L|L|L": 0})
        cuts = [(1, [(0, 1)]), (0, [(0, 2)]), (1, [(0, 3)]), (0, [(0, 4)])]
        self.assert_counts(places, cuts, {"L|LL|L": 1, "L|L|L|L": 0, "LLL|L": 0, "L|LL|L|": 0, "L|LLL": 0})

    def test_six_spots(self):
        places = [[(0, [ANY])]] * 6
        cuts = [(1, [(place, 1) for place in range(6)])]
        self.assert_counts(places, cuts, {"LLLLLL": 0, "L|LLLLL": 1, "LLLLLL|": 1, "LLL|L|LL": 1})

    def test_depends_on_the_way(self):
        # The second syllable is the first place's second, or the second place's first.
        metre = ([[(0, [ANY]), (0, [ANY, ANY])], [(0, [ANY]), (0, [ANY, ANY])]], [(1, [(1, 1)])])
        self.assertEqual(all_scansions(metre, verse("L L| L")), [([1, 1, 1], [0, 1], 0)])
        self.assertEqual(all_scansions(metre, verse("L L L|")), [([1, 1, 1], [1, 0], 0)])

    def test_what_runs_together_tells_no_words_end(self):
        self.assert_counts([[(0, [ANY, ANY])]], [(1, [(0, 1)])], {"L L-| L": 0, "L-| L L": 0, "L-| L| L": 1})
        self.assert_counts([[(0, [ANY, ANY])]], [(0, [(0, 1)])], {"L L-| L": 1, "L-| L L": 1, "L-| L| L": 0})
        # Whether the first word's end counts is a matter of whether it runs together.
        self.assertEqual(all_scansions(anys(2, [(1, [(0, 1)])]), verse("L~| L~ L")), [([1, 0, 1], [0], 0)])
        self.assertEqual(all_scansions(anys(2, [(0, [(0, 1)])]), verse("L~| L~ L")), [([0, 1, 1], [0], 0)])


class Order(unittest.TestCase):
    def test_syllables_before_ways(self):
        # The last way takes the syllable as light, so it comes first.
        metre = ([[(0, [ANY]), (0, [HEAVY]), (0, [LIGHT])]], [])
        self.assertEqual(all_scansions(metre, verse("E")), [([1], [2], 0), ([2], [1], 0), ([3], [0], 0)])

    def test_the_first_number_in_which_two_differ(self):
        metre = ([[(0, [ANY]), (0, [LIGHT])], [(0, [HEAVY]), (0, [ANY])]], [])
        self.assertEqual(
            all_scansions(metre, verse("E E")),
            [([1, 2], [1, 0], 0), ([1, 3], [1, 1], 0), ([3, 2], [0, 0], 0), ([3, 3], [0, 1], 0)],
        )

    def test_running_together_comes_first(self):
        metre = ([[(0, [ANY]), (0, [ANY, ANY])]], [])
        self.assertEqual(all_scansions(metre, verse("L~ L")), [([0, 1], [0], 0), ([1, 1], [1], 0)])

    def test_first_ways_first(self):
        metre = ([[(0, [ANY]), (0, [ANY, ANY])], [(0, [ANY]), (0, [ANY, ANY])], [(0, []), (0, [ANY])]], [])
        self.assertEqual(
            [ways for syllables, ways, cost in all_scansions(metre, verse("LLL"))],
            [[0, 0, 1], [0, 1, 0], [1, 0, 0]],
        )


class Scan(unittest.TestCase):
    def test_the_last_and_one_behind_it(self):
        metre = ([[(0, [ANY]), (100, [LIGHT])]], [])
        self.assertEqual(
            ask(("metre", metre), *[("scan", 0, n, verse("E")) for n in (0, 1, 2, 3, HIGHEST)]),
            [[0], [0, 1, 1, 1, 1, 1, 100], [0, 1, 3, 1, 0, 1, 0], [-6], [-6], [-6]],
        )

    def test_none_at_all(self):
        self.assertEqual(ask(("metre", ONE_LIGHT), ("scan", 0, 0, verse("H"))), [[0], [-6]])

    def test_highest_cost(self):
        metre = ([[(100, [ANY, ANY, ANY])]] * 8, [])
        self.assertEqual(ask(("metre", metre), ("scan", 0, 0, verse("L" * 24)))[1], [0, 24] + [1] * 24 + [8] + [0] * 8 + [1, 800])


class Cheapest(unittest.TestCase):
    def test_one(self):
        metre = ([[(3, [ANY]), (2, [LIGHT]), (4, [HEAVY])]], [])
        self.assertEqual(
            ask(("metre", metre), ("cheapest", 0, verse("E")), ("cheapest", 0, verse("H"))),
            [[0], [1, 1, 2, 1, 1, 1, 1], [1, 1, 3, 1, 2, 1, 0]],
        )

    def test_several_cost_the_least(self):
        metre = ([[(3, [ANY]), (3, [LIGHT]), (4, [HEAVY])], [(1, [ANY]), (0, [HEAVY]), (0, [ANY])]], [])
        # Light and heavy is the first of the four that cost 3.
        self.assertEqual(ask(("metre", metre), ("cheapest", 0, verse("E E")))[1], [4, 1, 3, 2, 1, 2, 2, 1, 1])

    def test_dear_ones_before_it_in_the_order(self):
        metre = ([[(9, [ANY]), (1, [ANY]), (1, [ANY])]], [])
        self.assertEqual(ask(("metre", metre), ("cheapest", 0, verse("H")))[1], [2, 1, 1, 1, 2, 1, 1])

    def test_a_cheap_beginning_may_be_dear(self):
        metre = ([[(0, [ANY]), (5, [ANY, ANY])], [(100, [ANY, ANY]), (1, [ANY])]], [])
        self.assertEqual(ask(("metre", metre), ("cheapest", 0, verse("LLL")))[1], [1, 1, 6, 3, 1, 1, 1, 2, 1, 1])

    def test_cheap_ones_that_a_cut_rules_out(self):
        metre = ([[(0, [ANY]), (5, [ANY, ANY])], [(0, [ANY, ANY]), (1, [ANY])]], [(1, [(0, 2)])])
        self.assertEqual(ask(("metre", metre), ("cheapest", 0, verse("L| L| L|")))[1], [1, 1, 6, 3, 1, 1, 1, 2, 1, 1])
        metre = (metre[0], [(0, [(1, 2)])])
        self.assertEqual(ask(("metre", metre), ("cheapest", 0, verse("L| L| L|")))[1], [1, 1, 6, 3, 1, 1, 1, 2, 1, 1])

    def test_by_running_together(self):
        metre = ([[(8, [ANY, ANY, ANY]), (2, [ANY, ANY])]], [])
        self.assertEqual(ask(("metre", metre), ("cheapest", 0, verse("H L~ H")))[1], [1, 1, 2, 3, 2, 0, 2, 1, 1])

    def test_all_free(self):
        self.assertEqual(ask(("metre", ONE_ANY), ("cheapest", 0, verse("E")))[1], [1, 1, 0, 1, 3, 1, 0])

    def test_it_does_not_scan(self):
        self.assertEqual(ask(("metre", ONE_LIGHT), ("cheapest", 0, verse("H"))), [[0], [-6]])


class Hexameter(unittest.TestCase):
    def test_one_way(self):
        found = all_scansions(HEXAMETER, verse("HLL HLL H|LL HH HLL HE"))
        self.assertEqual(found, [([2, 1, 1, 2, 1, 1, 2, 1, 1, 2, 2, 2, 1, 1, 2, 3], [0, 0, 0, 1, 0, 0], 1)])

    def test_without_the_words_end(self):
        self.assertEqual(all_scansions(HEXAMETER, verse("HLL HLL HL|L HH HLL HE")), [])

    def test_syllables_that_are_either(self):
        # Behind the third place there are a dactyl and a spondee, whichever is first.
        found = all_scansions(HEXAMETER, verse("HLL HLL H|LL HEE EE HL"))
        start = [2, 1, 1, 2, 1, 1, 2, 1, 1]
        self.assertEqual(
            found,
            [
                (start + [2, 1, 1, 2, 2, 2, 1], [0, 0, 0, 0, 1, 0], 1),
                (start + [2, 2, 2, 1, 1, 2, 1], [0, 0, 0, 1, 0, 0], 1),
            ],
        )

    def test_all_either(self):
        # Four dactyls and one spondee, wherever: as many rows; the light ones stand earliest where the spondee is last.
        line = [[3, 0, 1] for syllable in range(16)]
        ways = [ways for syllables, ways, cost in all_scansions(HEXAMETER, line)]
        spondee_at = [row.index(1) for row in ways]
        self.assertEqual(spondee_at, [4, 3, 2, 1, 0])


class Mends(unittest.TestCase):
    def test_none(self):
        self.assertEqual(mends(ONE_LIGHT, "L"), [0])
        self.assertEqual(mends(ONE_ANY, "H"), [0])
        self.assertEqual(mends(ONE_HEAVY, "E"), [0])

    def test_one(self):
        self.assertEqual(mends(ONE_LIGHT, "H"), [1])
        self.assertEqual(mends(ONE_HEAVY, "L"), [1])

    def test_fewest_of_several_ways(self):
        metre = ([[(0, [LIGHT, LIGHT, LIGHT]), (100, [HEAVY, HEAVY, LIGHT]), (100, [HEAVY, HEAVY, HEAVY])]], [])
        self.assertEqual([mends(metre, text)[0] for text in ("LLL", "HHL", "HHH", "LHH", "HLL", "LHL")], [0, 0, 0, 1, 1, 1])

    def test_what_runs_together_need_not_be_mended(self):
        self.assertEqual(mends(ONE_LIGHT, "H- L"), [0])
        self.assertEqual(mends(([[(0, [LIGHT, LIGHT])]], []), "H~ L~ L"), [0])
        self.assertEqual(mends(([[(0, [LIGHT, LIGHT])]], []), "H~ H~ L"), [1])

    def test_all_of_them(self):
        self.assertEqual(mends(([[(0, [HEAVY] * 3)]] * 8, []), "L" * 24), [24])

    def test_number_of_syllables_cannot_be_mended(self):
        self.assertEqual(mends(ONE_ANY, "LL"), [-6])
        self.assertEqual(mends(anys(2), "L"), [-6])
        self.assertEqual(mends(NOTHING, "L"), [-6])
        self.assertEqual(mends(anys(2), "L- L"), [-6])

    def test_words_ends_cannot_be_mended(self):
        self.assertEqual(mends(anys(1, [(1, [(0, 1)])]), "L"), [-6])
        self.assertEqual(mends(anys(1, [(0, [(0, 1)])]), "L|"), [-6])
        self.assertEqual(mends(anys(1, [(1, [])]), "L|"), [-6])

    def test_a_cut_makes_more_mends(self):
        # Without the cut nothing is to be mended: the first way of the second place would do.
        places = [[(0, [LIGHT]), (0, [HEAVY, HEAVY])], [(0, [LIGHT, LIGHT]), (0, [LIGHT])]]
        self.assertEqual(mends((places, []), "LLL"), [0])
        self.assertEqual(mends((places, [(0, [(0, 1)])]), "L| LL"), [-6])
        self.assertEqual(mends((places, [(1, [(0, 2)])]), "L L| L"), [2])

    def test_costs_do_not_matter(self):
        metre = ([[(100, [LIGHT]), (0, [HEAVY])]], [])
        self.assertEqual(mends(metre, "L"), [0])

    def test_hexameter(self):
        self.assertEqual(mends(HEXAMETER, "HLL HLL H|LL HH HLL HE"), [0])
        self.assertEqual(mends(HEXAMETER, "LLL HLL H|LL HH HLL LE"), [2])
        self.assertEqual(mends(HEXAMETER, "HLL HLL HLL HH HLL HE"), [-6])


if __name__ == "__main__":
    unittest.main()

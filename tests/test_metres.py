"""Points 1 and 2: begins and metre."""

import unittest

from asking import ask, verse
from samples import ANY, HEAVY, HEXAMETER, LIGHT, ONE_ANY, ONE_HEAVY, ONE_LIGHT, bad_metres


class Begins(unittest.TestCase):
    def test_alone(self):
        self.assertEqual(ask(("begins",)), [[0]])

    def test_twice(self):
        self.assertEqual(ask(("begins",), ("begins",)), [[0], [0]])

    def test_in_the_middle_no_metres_are_left(self):
        light = verse("L")
        self.assertEqual(
            ask(
                ("metre", ONE_ANY), ("metre", ONE_LIGHT), ("scans", 1, light), ("which", light), ("begins",),
                ("scans", 0, light), ("scans", 1, light), ("which", light), ("poem", [0], []), ("forms", [light]),
            ),
            [[0], [1], [1], [2, 2, 0, 1], [0], [-2], [-2], [0, 0], [-2], [-6]],
        )

    def test_numbers_start_anew(self):
        self.assertEqual(
            ask(("metre", ONE_LIGHT), ("begins",), ("metre", ONE_HEAVY), ("which", verse("L")), ("which", verse("H"))),
            [[0], [0], [0], [0, 0], [1, 1, 0]],
        )

    def test_eight_more_fit_behind_it(self):
        calls = [("metre", ONE_ANY)] * 8 + [("begins",)] + [("metre", ONE_ANY)] * 9
        numbers = [[k] for k in range(8)]
        self.assertEqual(ask(*calls), numbers + [[0]] + numbers + [[-5]])


class Told(unittest.TestCase):
    def assert_taken(self, metre):
        self.assertEqual(ask(("metre", metre)), [[0]])

    def test_numbered_from_0(self):
        self.assertEqual(ask(("metre", ONE_ANY), ("metre", HEXAMETER), ("metre", ONE_ANY)), [[0], [1], [2]])

    def test_1_and_8_places(self):
        self.assert_taken(([[(0, [ANY])]], []))
        self.assert_taken(([[(0, [ANY])]] * 8, []))

    def test_1_to_3_ways(self):
        for count in (1, 2, 3):
            self.assert_taken(([[(0, [ANY])] * count], []))

    def test_cost_0_and_100(self):
        for cost in (0, 100):
            self.assert_taken(([[(cost, [ANY])]], []))

    def test_rows_of_0_to_4(self):
        for size in range(5):
            self.assert_taken(([[(0, [LIGHT, HEAVY, ANY, LIGHT][:size])]], []))

    def test_0_to_4_cuts(self):
        for count in range(5):
            self.assert_taken(([[(0, [ANY])]], [(count % 2, [(0, 1)])] * count))

    def test_0_to_6_spots(self):
        for kind in (0, 1):
            for count in range(7):
                self.assert_taken(([[(0, [ANY])]], [(kind, [(0, 1)] * count)]))

    def test_spots_of_syllables_1_to_4_that_no_way_reaches(self):
        for syllable in (1, 2, 3, 4):
            self.assert_taken(([[(0, [])]], [(0, [(0, syllable)])]))

    def test_spot_in_the_last_place(self):
        self.assert_taken(([[(0, [ANY])]] * 8, [(1, [(7, 4)])]))


class Refused(unittest.TestCase):
    def test_not_as_told(self):
        for wrong, metre in bad_metres().items():
            with self.subTest(wrong):
                self.assertEqual(ask(("metre", metre)), [[-1]])

    def test_it_takes_no_number(self):
        for wrong, metre in bad_metres().items():
            with self.subTest(wrong):
                self.assertEqual(
                    ask(("metre", ONE_LIGHT), ("metre", metre), ("which", verse("L")), ("metre", ONE_ANY)),
                    [[0], [-1], [1, 1, 0], [1]],
                )

    def test_the_ninth(self):
        metres = [("metre", ONE_ANY)] * 7 + [("metre", ONE_LIGHT)]
        self.assertEqual(
            ask(*metres, ("metre", ONE_ANY), ("metre", ONE_ANY), ("which", verse("H")), ("scans", 8, verse("H")))[7:],
            [[7], [-5], [-5], [7, 7, 0, 1, 2, 3, 4, 5, 6], [-2]],
        )

    def test_the_ninth_that_is_not_as_told_either(self):
        for wrong, metre in bad_metres().items():
            with self.subTest(wrong):
                self.assertEqual(ask(*[("metre", ONE_ANY)] * 8, ("metre", metre))[8], [-1])


if __name__ == "__main__":
    unittest.main()

"""Point 3: what scans, scan, cheapest, which and mends refuse, and what lines are as told."""

import unittest

from asking import ask, verse
from samples import HIGHEST, NOTHING, ONE_ANY, ONE_LIGHT, anys, bad_lines

WITH_METRE = {
    "scans": lambda k, line: ("scans", k, line),
    "scan": lambda k, line: ("scan", k, 0, line),
    "cheapest": lambda k, line: ("cheapest", k, line),
    "mends": lambda k, line: ("mends", k, line),
}


class NoSuchMetre(unittest.TestCase):
    def test_none_at_the_beginning(self):
        for name, call in WITH_METRE.items():
            with self.subTest(name):
                self.assertEqual(ask(call(0, verse("L"))), [[-2]])

    def test_behind_the_last(self):
        for name, call in WITH_METRE.items():
            for k in (2, 3, 8, HIGHEST):
                with self.subTest(name, k=k):
                    self.assertEqual(ask(("metre", ONE_ANY), ("metre", ONE_ANY), call(k, verse("L")))[2], [-2])

    def test_before_a_line_not_as_told(self):
        for name, call in WITH_METRE.items():
            for wrong, line in bad_lines().items():
                with self.subTest(name, wrong=wrong):
                    self.assertEqual(ask(("metre", ONE_ANY), call(1, line))[1], [-2])

    def test_before_no_scansion(self):
        self.assertEqual(
            ask(("metre", NOTHING), ("scan", 1, 5, verse("L")), ("cheapest", 1, verse("L")), ("mends", 1, verse("L"))),
            [[0], [-2], [-2], [-2]],
        )


class NotAsTold(unittest.TestCase):
    def test_each_call(self):
        for name, call in WITH_METRE.items():
            for wrong, line in bad_lines().items():
                with self.subTest(name, wrong=wrong):
                    self.assertEqual(ask(("metre", ONE_ANY), call(0, line))[1], [-1])

    def test_which(self):
        for wrong, line in bad_lines().items():
            with self.subTest(wrong):
                self.assertEqual(ask(("which", line), ("metre", ONE_ANY), ("which", line)), [[-1], [0], [-1]])

    def test_before_no_scansion(self):
        for wrong, line in bad_lines().items():
            with self.subTest(wrong):
                self.assertEqual(
                    ask(("metre", NOTHING), ("scan", 0, HIGHEST, line), ("cheapest", 0, line), ("mends", 0, line)),
                    [[0], [-1], [-1], [-1]],
                )

    def test_all_is_as_it_was(self):
        asked = [("scans", 0, verse("L")), ("which", verse("L")), ("poem", [0], [verse("L")])]
        refused = [("scans", 0, verse("L-")), ("which", []), ("mends", 9, []), ("scan", 0, 7, verse("L"))]
        found = ask(("metre", ONE_LIGHT), *asked, *refused, *asked)
        self.assertEqual(found[1:4], [[1], [1, 1, 0], [1, 1, 1]])
        self.assertEqual(found[4:8], [[-1], [-1], [-2], [-6]])
        self.assertEqual(found[8:], found[1:4])


class AsTold(unittest.TestCase):
    def assert_count(self, metre, line, count):
        self.assertEqual(ask(("metre", metre), ("scans", 0, line)), [[0], [count]])

    def test_1_syllable(self):
        for weight in "LHE":
            self.assert_count(ONE_ANY, verse(weight), 1)

    def test_24_syllables(self):
        self.assert_count(([[(0, [3, 3, 3])]] * 8, []), verse("LHE" * 8), 1)
        self.assert_count(([[(0, [3, 3, 3])]] * 8, []), verse("LHE" * 7 + "LH"), 0)

    def test_6_that_may_run_together(self):
        # One counts besides the last: any one of the six.
        self.assert_count(anys(2), verse("L~" * 6 + "L"), 6)

    def test_those_that_must_are_not_counted(self):
        self.assert_count(ONE_ANY, verse("L-" * 23 + "L"), 1)
        self.assert_count(anys(2), verse("L- L~" * 6 + "L-" * 11 + "L"), 6)

    def test_word_ends_anywhere(self):
        for text in ("L L", "L| L", "L L|", "L-| L L", "L L~| L-| L|"):
            self.assert_count(anys(2), verse(text), 1)


class Which(unittest.TestCase):
    def test_no_metres(self):
        self.assertEqual(ask(("which", verse("L"))), [[0, 0]])

    def test_rising(self):
        metres = [("metre", metre) for metre in (NOTHING, ONE_ANY, anys(2), ONE_LIGHT, anys(3))]
        self.assertEqual(
            ask(*metres, ("which", verse("L")), ("which", verse("H")), ("which", verse("L~ H")), ("which", verse("LLLL"))),
            [[0], [1], [2], [3], [4], [2, 2, 1, 3], [1, 1, 1], [2, 2, 1, 2], [0, 0]],
        )

    def test_8_metres(self):
        self.assertEqual(ask(*[("metre", ONE_ANY)] * 8, ("which", verse("E")))[8], [8, 8, 0, 1, 2, 3, 4, 5, 6, 7])


if __name__ == "__main__":
    unittest.main()

"""The interface: the list handed in, the list given back."""

import contextlib
import io
import unittest

from asking import apart, ask, desk_list, verse
from samples import ANY, HEXAMETER, LIGHT, ONE_ANY, ONE_HEAVY, ONE_LIGHT, anys
from versescan.desk import answers

ALL_NINE = [
    ("begins",),
    ("metre", ([[(3, [LIGHT]), (4, [ANY])]], [(0, [])])),
    ("scans", 0, verse("E")),
    ("scan", 0, 1, verse("E")),
    ("cheapest", 0, verse("E")),
    ("which", verse("E")),
    ("mends", 0, verse("H")),
    ("poem", [0], [verse("H"), verse("L")]),
    ("forms", [verse("H"), verse("L")]),
]

REFUSALS = [
    ("scans", 1, verse("E")),
    ("scan", 0, 2, verse("E")),
    ("cheapest", 0, []),
    ("which", []),
    ("mends", 0, verse("LL")),
    ("poem", [], []),
    ("forms", []),
    ("metre", ([], [])),
]


class Unchanging(list):
    """A list that lets nobody change it, not for a while either."""

    def refuse(self, *told):
        raise AssertionError("what was handed in was changed")

    __setitem__ = __delitem__ = __iadd__ = __imul__ = refuse
    append = extend = insert = pop = remove = clear = sort = reverse = refuse


class Numbers(unittest.TestCase):
    def test_the_list_number_by_number(self):
        handed_in = [
            0, 1, 0,  # begins
            0, 12, 1, 1, 2, 3, 1, 1, 4, 1, 3, 1, 0, 0,  # metre: 1 place of 2 ways; 1 cut that mustn't be, with no spot
            0, 6, 2, 0, 1, 3, 0, 0,  # scans
            0, 7, 3, 0, 1, 1, 3, 0, 0,  # scan
            0, 6, 4, 0, 1, 3, 0, 0,  # cheapest
            0, 5, 5, 1, 3, 0, 0,  # which
            0, 6, 6, 0, 1, 2, 0, 0,  # mends
            0, 12, 7, 1, 0, 2, 1, 2, 0, 0, 1, 1, 0, 0,  # poem
            0, 10, 8, 2, 1, 2, 0, 0, 1, 1, 0, 0,  # forms
        ]
        self.assertEqual(desk_list(ALL_NINE), handed_in)
        self.assertEqual(
            answers(handed_in),
            [
                1, 0,
                1, 0,
                1, 2,
                7, 0, 1, 3, 1, 1, 1, 4,
                7, 1, 1, 3, 1, 1, 1, 0,
                3, 1, 1, 0,
                1, 0,
                4, 1, 2, 1, 2,
                3, 1, 1, 0,
            ],
        )

    def test_cuts_and_spots_number_by_number(self):
        # 2 places of 1 way each; a cut that must be, at the second syllable of place 0 or the first of place 1.
        metre = [0, 18, 1, 2, 1, 0, 2, 3, 3, 1, 100, 1, 3, 1, 1, 2, 0, 2, 1, 1]
        line = [3, 1, 0, 0, 1, 0, 1, 1, 0, 0]
        other = [3, 1, 0, 1, 1, 0, 0, 1, 0, 0]
        self.assertEqual(answers(metre + [0, 12, 2, 0] + line + [0, 12, 2, 0] + other), [1, 0, 1, 1, 1, 0])

    def test_a_refusal_is_one_number(self):
        found = answers(desk_list(ALL_NINE[1:2] + REFUSALS))
        self.assertEqual(found, [1, 0, 1, -2, 1, -6, 1, -1, 1, -1, 1, -6, 1, -2, 1, -1, 1, -1])

    def test_empty_lists_are_counted(self):
        self.assertEqual(answers([0, 5, 5, 1, 1, 0, 0]), [2, 0, 0])
        self.assertEqual(answers(desk_list([("metre", ONE_ANY), ("poem", [0], [])])), [1, 0, 2, 1, 0])

    def test_each_call_alone(self):
        expected = [[0], [0], [-2], [-2], [-2], [0, 0], [-2], [-2], [-6]]
        for call, answer in zip(ALL_NINE, expected):
            with self.subTest(call[0]):
                self.assertEqual(ask(call), [answer])

    def test_60_calls(self):
        calls = [("metre", ONE_LIGHT), ("metre", ONE_HEAVY)] + [("which", verse("L")), ("which", verse("H"))] * 29
        self.assertEqual(ask(*calls), [[0], [1]] + [[1, 1, 0], [1, 1, 1]] * 29)

    def test_kinds(self):
        found = answers(desk_list(ALL_NINE + REFUSALS))
        self.assertIs(type(found), list)
        self.assertEqual({type(number) for number in found}, {int})


class NothingElse(unittest.TestCase):
    def test_what_is_handed_in_stays(self):
        numbers = desk_list(ALL_NINE + REFUSALS + ALL_NINE)
        handed_in = Unchanging(numbers)
        found = answers(handed_in)
        self.assertEqual(list(handed_in), numbers)
        self.assertEqual(found, answers(numbers))
        self.assertIsNot(found, handed_in)

    def test_what_is_given_back_is_new(self):
        numbers = desk_list(ALL_NINE)
        first = answers(numbers)
        kept = list(first)
        first.append(7)
        first[0] = 9
        self.assertEqual(answers(numbers), kept)

    def test_a_second_time_gives_the_same(self):
        numbers = desk_list(ALL_NINE[1:] + REFUSALS + [("metre", HEXAMETER)])
        self.assertEqual(answers(numbers), answers(numbers))

    def test_nothing_is_kept(self):
        self.assertEqual(ask(("metre", ONE_ANY)), [[0]])
        self.assertEqual(ask(("scans", 0, verse("L")), ("which", verse("L"))), [[-2], [0, 0]])
        for time in range(10):
            self.assertEqual(ask(("metre", anys(2))), [[0]])

    def test_a_refusal_leaves_all_as_it_was(self):
        plain = ask(*ALL_NINE[1:])
        for refused in REFUSALS:
            with self.subTest(refused[0]):
                calls = ALL_NINE[1:2]
                for call in ALL_NINE[2:]:
                    calls = calls + [refused, call]
                self.assertEqual([plain[0]] + ask(*calls)[2::2], plain)

    def test_it_prints_nothing(self):
        out, err = io.StringIO(), io.StringIO()
        with contextlib.redirect_stdout(out), contextlib.redirect_stderr(err):
            answers(desk_list(ALL_NINE + REFUSALS))
        self.assertEqual((out.getvalue(), err.getvalue()), ("", ""))

    def test_apart_takes_all(self):
        self.assertEqual(len(apart(answers(desk_list(ALL_NINE + REFUSALS)))), len(ALL_NINE) + len(REFUSALS))


if __name__ == "__main__":
    unittest.main()

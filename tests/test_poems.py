"""Points 6 and 7: poem and forms."""

import unittest

from asking import ask, verse
from samples import HIGHEST, NOTHING, ONE_ANY, ONE_HEAVY, ONE_LIGHT, anys, bad_lines

L, H, E, LL, HH = verse("L"), verse("H"), verse("E"), verse("LL"), verse("HH")

# 0 takes a light one, 1 a heavy one, 2 either.
METRES = [("metre", ONE_LIGHT), ("metre", ONE_HEAVY), ("metre", ONE_ANY)]


def poem(form, lines):
    return ask(*METRES, ("poem", form, lines))[3]


def forms(lines):
    return ask(*METRES, ("forms", lines))[3]


class Poem(unittest.TestCase):
    def test_one_metre(self):
        self.assertEqual(poem([0], [L, L, L]), [1, 3, 1, 1, 1])
        self.assertEqual(poem([0], [L, H, L]), [0, 3, 1, 0, 1])

    def test_again_and_again(self):
        self.assertEqual(poem([0, 1], [L, H, L, H]), [1, 4, 1, 1, 1, 1])
        self.assertEqual(poem([0, 1], [L, H, H, H]), [0, 4, 1, 1, 0, 1])
        self.assertEqual(poem([0, 0, 1], [L, L, H, E, L, E]), [1, 6, 1, 1, 1, 1, 1, 1])

    def test_the_last_one_is_the_forms_last(self):
        self.assertEqual(poem([0, 1], [L, H, L]), [0, 3, 1, 1, 1])
        self.assertEqual(poem([0, 0], [L, L, L]), [0, 3, 1, 1, 1])

    def test_no_lines(self):
        self.assertEqual(poem([0], []), [1, 0])
        self.assertEqual(poem([0, 1, 2], []), [1, 0])

    def test_a_form_longer_than_the_poem(self):
        self.assertEqual(poem([0, 1, 2], [L, H]), [0, 2, 1, 1])
        self.assertEqual(poem([2] * 60, [L] * 20), [0, 20] + [1] * 20)

    def test_a_form_just_as_long(self):
        self.assertEqual(poem([2] * 20, [H] * 20), [1, 20] + [1] * 20)

    def test_how_many_scansions(self):
        two = ([[(0, [1]), (0, [3])]], [])
        self.assertEqual(
            ask(("metre", two), ("metre", anys(2)), ("poem", [0, 1], [L, verse("L~L~L~H"), H, LL]))[2],
            [1, 4, 2, 3, 1, 1],
        )

    def test_20_lines(self):
        self.assertEqual(poem([0, 1], [L, H] * 10), [1, 20] + [1] * 20)

    def test_no_metres(self):
        self.assertEqual(poem([], [L]), [-2])
        self.assertEqual(poem([], []), [-2])
        self.assertEqual(ask(("poem", [], [])), [[-2]])
        self.assertEqual(ask(("poem", [0], [])), [[-2]])

    def test_a_metre_that_is_not_there(self):
        for form in ([3], [HIGHEST], [0, 3], [0, 1, 2, 0, 3]):
            for lines in ([], [L], [L] * 20):
                with self.subTest(form=form, lines=len(lines)):
                    self.assertEqual(poem(form, lines), [-2])

    def test_lines_not_as_told(self):
        self.assertEqual(poem([0], [L] * 21), [-1])
        self.assertEqual(poem([0], [L] * 60), [-1])
        for wrong, line in bad_lines().items():
            with self.subTest(wrong):
                self.assertEqual(poem([0], [line]), [-1])
                self.assertEqual(poem([0, 1], [L, H, line]), [-1])
                self.assertEqual(poem([0, 1], [line, H, L]), [-1])

    def test_both_wrong(self):
        for form in ([], [0, 3]):
            self.assertEqual(poem(form, [L] * 21), [-2])
            for wrong, line in bad_lines().items():
                with self.subTest(wrong, form=form):
                    self.assertEqual(poem(form, [line]), [-2])


class Forms(unittest.TestCase):
    def test_one_metre(self):
        self.assertEqual(forms([L]), [1, 1, 0])
        self.assertEqual(forms([H]), [1, 1, 1])
        self.assertEqual(forms([L, L, L]), [1, 1, 0])

    def test_the_fewest_metres_before_the_least(self):
        # 0 and 1 would do too; but one metre is fewer.
        self.assertEqual(forms([L, H]), [1, 1, 2])

    def test_each_the_least_that_does(self):
        metres = [("metre", metre) for metre in (anys(2), ONE_HEAVY, ONE_ANY, ONE_LIGHT, anys(2))]
        self.assertEqual(ask(*metres, ("forms", [H, LL]))[5], [2, 2, 1, 0])
        self.assertEqual(ask(*metres, ("forms", [H, LL, L, HH]))[5], [2, 2, 2, 0])
        self.assertEqual(ask(*metres, ("forms", [L, LL, L, HH]))[5], [2, 2, 2, 0])

    def test_the_poem_ends_with_the_form(self):
        metres = [("metre", ONE_LIGHT), ("metre", ONE_HEAVY)]
        # Light and heavy by turns, but three lines aren't a multiple of two.
        self.assertEqual(ask(*metres, ("forms", [L, H, L]))[2], [3, 3, 0, 1, 0])
        self.assertEqual(ask(*metres, ("forms", [L, H, L, H]))[2], [2, 2, 0, 1])
        self.assertEqual(ask(*metres, ("forms", [L, H, H, L, H, H]))[2], [3, 3, 0, 1, 1])
        self.assertEqual(ask(*metres, ("forms", [L, H, L, E]))[2], [2, 2, 0, 1])
        self.assertEqual(ask(*metres, ("forms", [E, E, L, E, H, E]))[2], [3, 3, 0, 1, 0])

    def test_20_lines(self):
        metres = [("metre", ONE_LIGHT), ("metre", ONE_HEAVY)]
        lines = [L] * 19 + [H]
        self.assertEqual(ask(*metres, ("forms", lines))[2], [20, 20] + [0] * 19 + [1])
        self.assertEqual(ask(*metres, ("forms", [L, L, L, H] * 5))[2], [4, 4, 0, 0, 0, 1])

    def test_none(self):
        self.assertEqual(forms([LL]), [-6])
        self.assertEqual(forms([L, L, LL]), [-6])
        self.assertEqual(ask(("forms", [L])), [[-6]])
        self.assertEqual(ask(("metre", NOTHING), ("forms", [L, L])), [[0], [-6]])

    def test_not_as_told(self):
        self.assertEqual(forms([]), [-1])
        self.assertEqual(forms([L] * 21), [-1])
        self.assertEqual(forms([L] * 60), [-1])
        for wrong, line in bad_lines().items():
            with self.subTest(wrong):
                self.assertEqual(forms([line]), [-1])
                self.assertEqual(forms([L, H, line]), [-1])

    def test_both_wrong(self):
        # Nothing scans, and one isn't as told either.
        for wrong, line in bad_lines().items():
            with self.subTest(wrong):
                self.assertEqual(forms([LL, line]), [-1])
                self.assertEqual(ask(("forms", [line])), [[-1]])
        self.assertEqual(ask(("forms", [])), [[-1]])


if __name__ == "__main__":
    unittest.main()

"""Metres and lines that several tests ask about."""

from asking import verse

LIGHT, HEAVY, ANY = 1, 2, 3

DACTYL = (0, [HEAVY, LIGHT, LIGHT])
SPONDEE = (1, [HEAVY, HEAVY])

# Behind the fifth half: the first syllable of the third place. (Places are told from 0.)
HEXAMETER = ([[DACTYL, SPONDEE]] * 5 + [[(0, [HEAVY, ANY])]], [(1, [(2, 1)])])

# One place, which takes one syllable, whatever it is.
ONE_ANY = ([[(0, [ANY])]], [])
ONE_LIGHT = ([[(0, [LIGHT])]], [])
ONE_HEAVY = ([[(0, [HEAVY])]], [])
# No syllables at all: no line scans by it, nor can it be mended.
NOTHING = ([[(0, [])]], [])

HIGHEST = 4294967295


def anys(size, cuts=()):
    """A metre of one place and one way that takes so many syllables (4 at most), whatever they are."""
    return ([[(0, [ANY] * size)]], list(cuts))


def bad_lines():
    """Lines that aren't as told, with what is wrong with them."""
    return {
        "no syllable": [],
        "25 syllables": verse("L" * 25),
        "60 syllables": verse("L" * 60),
        "weight 0": [[0, 0, 0]],
        "weight 4": [[1, 0, 0], [4, 0, 0]],
        "weight highest": [[HIGHEST, 0, 0]],
        "a weight that runs together": [[0, 1, 0], [1, 0, 0]],
        "runs together 3": [[1, 3, 0], [1, 0, 0]],
        "runs together highest": [[1, HIGHEST, 0], [1, 0, 0]],
        "the last runs together 3": [[1, 3, 0]],
        "the last must": verse("L L-"),
        "the last may": verse("L L~"),
        "7 may": verse("L~" * 7 + "L"),
        "7 may, spread": verse("L~ L" * 7),
    }


def bad_metres():
    """Metres that aren't as told, with what is wrong with them."""
    any_way = (0, [ANY])
    return {
        "no place": ([], []),
        "9 places": ([[any_way]] * 9, []),
        "60 places": ([[any_way]] * 60, []),
        "no way": ([[]], []),
        "no way at the last place": ([[any_way], []], []),
        "4 ways": ([[any_way] * 4], []),
        "cost 101": ([[(101, [ANY])]], []),
        "cost highest": ([[any_way], [any_way, (HIGHEST, [ANY])]], []),
        "row of 5": ([[(0, [ANY] * 5)]], []),
        "row of 60": ([[(0, [ANY] * 60)]], []),
        "member 0": ([[(0, [0])]], []),
        "member 4": ([[(0, [1, 2, 3, 4])]], []),
        "member highest": ([[(0, [HIGHEST])]], []),
        "5 cuts": ([[any_way]], [(0, [])] * 5),
        "7 spots": ([[any_way]], [(0, [(0, 1)] * 7)]),
        "spot's syllable 0": ([[any_way]], [(0, [(0, 0)])]),
        "spot's syllable 5": ([[any_way]], [(1, [(0, 1), (0, 5)])]),
        "spot's syllable highest": ([[any_way]], [(0, [(0, HIGHEST)])]),
        "spot's place behind the last": ([[any_way]] * 3, [(0, []), (0, [(3, 1)])]),
        "spot's place highest": ([[any_way]], [(0, [(HIGHEST, 1)])]),
    }

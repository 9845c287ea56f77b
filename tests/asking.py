"""Calls told as (name, its values ..) put into the desk's one list, and its answers taken apart again.

A line is a list of (weight, runs together, word's end); a metre is (places, cuts), a place a list of (cost, row), a cut
(kind, list of (place, syllable)).
"""

from versescan.desk import answers

NAMES = ("begins", "metre", "scans", "scan", "cheapest", "which", "mends", "poem", "forms")


def counted(rows):
    return [len(rows)] + [number for row in rows for number in row]


def line_numbers(line):
    return counted(line)


def metre_numbers(metre):
    places, cuts = metre
    told_places = [counted([[cost] + counted([[member] for member in row]) for cost, row in ways]) for ways in places]
    told_cuts = [[kind] + counted(spots) for kind, spots in cuts]
    return counted(told_places) + counted(told_cuts)


def call_numbers(call):
    name, told = call[0], call[1:]
    numbers = [NAMES.index(name)]
    if name == "metre":
        return numbers + metre_numbers(told[0])
    if name == "poem":
        numbers += counted([[k] for k in told[0]])
    if name in ("poem", "forms"):
        return numbers + counted([line_numbers(line) for line in told[-1]])
    if name == "begins":
        return numbers
    return numbers + list(told[:-1]) + line_numbers(told[-1])


def desk_list(calls):
    numbers = []
    for call in calls:
        told = call_numbers(call)
        numbers += [0, len(told)] + told
    return numbers


def apart(told):
    """The desk's list as a list of answers."""
    found = []
    at = 0
    while at < len(told):
        size = told[at]
        found.append(told[at + 1:at + 1 + size])
        at += 1 + size
    assert at == len(told)
    return found


def ask(*calls):
    return apart(answers(desk_list(calls)))


def verse(text):
    """A line from a text: L, H or E a syllable; behind it - (it must run together) or ~ (it may); | a word's end."""
    line = []
    for sign in text.replace(" ", ""):
        if sign in "LHE":
            line.append(["LHE".index(sign) + 1, 0, 0])
        elif sign in "-~":
            line[-1][1] = "-~".index(sign) + 1
        else:
            line[-1][2] = 1
    return line

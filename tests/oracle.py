"""The document's words again, by plain trial of everything: for tests alone, slow, and apart from the program."""

from itertools import combinations, product


def line_as_told(line):
    if not 1 <= len(line) <= 24:
        return False
    for weight, join, end in line:
        if weight not in (1, 2, 3) or join not in (0, 1, 2):
            return False
    return sum(1 for syllable in line if syllable[1] == 2) <= 6 and line[-1][1] == 0


def metre_as_told(metre):
    places, cuts = metre
    if not 1 <= len(places) <= 8 or len(cuts) > 4:
        return False
    for ways in places:
        if not 1 <= len(ways) <= 3:
            return False
        for cost, row in ways:
            if cost > 100 or len(row) > 4 or any(member not in (1, 2, 3) for member in row):
                return False
    for kind, spots in cuts:
        if len(spots) > 6:
            return False
        for place, syllable in spots:
            if place >= len(places) or syllable not in (1, 2, 3, 4):
                return False
    return True


def choices_of_joins(line):
    """Each way to say of each syllable whether it runs together."""
    return product(*[((False,), (True,), (False, True))[join] for weight, join, end in line])


def taken(weight, member):
    if member == 3:
        return weight
    return member if weight in (member, 3) else None


def cuts_hold(cuts, word_ends):
    for kind, spots in cuts:
        if any(tuple(spot) in word_ends for spot in spots) != (kind == 1):
            return False
    return True


def fillings(line, metre):
    """All (joined, choice of ways, members by counting syllable) that fit in number and in cuts, whatever the weights."""
    places, cuts = metre
    for joined in choices_of_joins(line):
        counting = [index for index in range(len(line)) if not joined[index]]
        for choice in product(*[range(len(ways)) for ways in places]):
            rows = [places[place][way][1] for place, way in enumerate(choice)]
            spots = [(place, nth + 1) for place, row in enumerate(rows) for nth in range(len(row))]
            if len(spots) != len(counting):
                continue
            word_ends = {spot for spot, index in zip(spots, counting) if line[index][2]}
            if cuts_hold(cuts, word_ends):
                members = [member for row in rows for member in row]
                yield choice, dict(zip(counting, members))


def scansions(line, metre):
    """All scansions in their order, each a pair: its row, its cost."""
    found = []
    for choice, members in fillings(line, metre):
        syllables = [taken(line[index][0], members[index]) if index in members else 0 for index in range(len(line))]
        if None not in syllables:
            cost = sum(metre[0][place][way][0] for place, way in enumerate(choice))
            found.append((tuple(syllables) + choice, cost))
    assert len({row for row, cost in found}) == len(found)
    return sorted(found)


def fewest_mends(line, metre):
    """By trying all sets of syllables, the small ones first, with all other weights."""
    # Syllables that are either fill whatever there is.
    if not scansions([[3, join, end] for weight, join, end in line], metre):
        return None
    for size in range(len(line) + 1):
        for chosen in combinations(range(len(line)), size):
            for weights in product((1, 2, 3), repeat=size):
                tried = [list(syllable) for syllable in line]
                for index, weight in zip(chosen, weights):
                    tried[index][0] = weight
                if scansions(tried, metre):
                    return size
    return None


class Oracle:
    """Answers one call after another, each told as (name, its values ..), as one list of numbers."""

    def __init__(self):
        self.metres = []

    def answer(self, call):
        return getattr(self, call[0])(*call[1:])

    def begins(self):
        self.metres = []
        return [0]

    def metre(self, metre):
        if not metre_as_told(metre):
            return [-1]
        if len(self.metres) == 8:
            return [-5]
        self.metres.append(metre)
        return [len(self.metres) - 1]

    def refusal(self, k, line):
        if k >= len(self.metres):
            return [-2]
        return None if line_as_told(line) else [-1]

    def scans(self, k, line):
        return self.refusal(k, line) or [len(scansions(line, self.metres[k]))]

    def scan(self, k, n, line):
        refusal = self.refusal(k, line)
        if refusal:
            return refusal
        found = scansions(line, self.metres[k])
        if n >= len(found):
            return [-6]
        row, cost = found[n]
        size = len(line)
        return [0, size, *row[:size], len(row) - size, *row[size:], 1, cost]

    def cheapest(self, k, line):
        refusal = self.refusal(k, line)
        if refusal:
            return refusal
        found = scansions(line, self.metres[k])
        if not found:
            return [-6]
        least = min(cost for row, cost in found)
        rows = [row for row, cost in found if cost == least]
        size = len(line)
        return [len(rows), 1, least, size, *rows[0][:size], len(rows[0]) - size, *rows[0][size:]]

    def which(self, line):
        if not line_as_told(line):
            return [-1]
        numbers = [k for k, metre in enumerate(self.metres) if scansions(line, metre)]
        return [len(numbers), len(numbers), *numbers]

    def mends(self, k, line):
        refusal = self.refusal(k, line)
        if refusal:
            return refusal
        fewest = fewest_mends(line, self.metres[k])
        return [-6 if fewest is None else fewest]

    def poem_of(self, form, lines):
        counts = [len(scansions(line, self.metres[form[i % len(form)]])) for i, line in enumerate(lines)]
        holds = all(counts) and (not lines or (len(lines) - 1) % len(form) == len(form) - 1)
        return [int(holds), len(counts), *counts]

    def poem(self, form, lines):
        if not form or any(k >= len(self.metres) for k in form):
            return [-2]
        if len(lines) > 20 or not all(line_as_told(line) for line in lines):
            return [-1]
        return self.poem_of(form, lines)

    def forms(self, lines):
        if not 1 <= len(lines) <= 20 or not all(line_as_told(line) for line in lines):
            return [-1]
        for size in range(1, len(lines) + 1):
            for form in product(range(len(self.metres)), repeat=size):
                if self.poem_of(form, lines)[0] == 1:
                    return [size, size, *form]
        return [-6]

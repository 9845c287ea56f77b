"""Lines of verse: how they are read, and when they are as told."""

from versescan.refusals import NotAsTold

EITHER = 3
ANY = 3

MUST_JOIN = 1
MAY_JOIN = 2

MOST_SYLLABLES = 24
MOST_THAT_MAY_JOIN = 6
MOST_LINES = 20


# Of each syllable its weight, whether it runs together, and whether a word ends with it.
class Line:
    def __init__(self, weights, joins, ends):
        self.weights = weights
        self.joins = joins
        self.ends = ends


def is_as_told(line):
    size = len(line.weights)
    if size < 1 or size > MOST_SYLLABLES:
        return False
    if any([weight < 1 or weight > EITHER for weight in line.weights]):
        return False
    if any([join > MAY_JOIN for join in line.joins]):
        return False
    return line.joins.count(MAY_JOIN) <= MOST_THAT_MAY_JOIN and line.joins[-1] == 0


def read_line(reader):
    line = Line([], [], [])
    for syllable in range(reader.take()):
        line.weights.append(reader.take())
        line.joins.append(reader.take())
        line.ends.append(reader.take())
    if not is_as_told(line):
        raise NotAsTold()
    return line


def read_lines(reader):
    size = reader.take()
    if size > MOST_LINES:
        raise NotAsTold()
    return [read_line(reader) for line in range(size)]


# What a syllable of this weight is taken as where it fills this member of a row; 0: it can't fill it.
def taken_as(weight, member):
    if member == ANY:
        return weight
    if weight == member or weight == EITHER:
        return member
    return 0

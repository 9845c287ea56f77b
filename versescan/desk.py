"""The desk: a list of calls is handed in, a list of answers is given back."""

from versescan.forms import metres_of, scansion_counts, shortest_form
from versescan.line import read_line, read_lines
from versescan.metre import read_metre
from versescan.reader import Reader
from versescan.refusals import NoSuchMetre, NotAsTold, Refusal, TooManyMetres
from versescan.scansions import cheapest_scansion, fewest_mends, nth_scansion
from versescan.tally import Lanes, count_scansions

MOST_METRES = 8


def with_length(row):
    return [len(row)] + row


def metre_at(metres, number):
    if number >= len(metres):
        raise NoSuchMetre()
    return metres[number]


def begins(metres, reader):
    metres.clear()
    return [0]


def metre(metres, reader):
    told = read_metre(reader)
    if len(metres) == MOST_METRES:
        raise TooManyMetres()
    metres.append(told)
    return [len(metres) - 1]


def scans(metres, reader):
    chosen = metre_at(metres, reader.take())
    return [count_scansions(Lanes(read_line(reader)), chosen)]


def scan(metres, reader):
    chosen = metre_at(metres, reader.take())
    number = reader.take()
    found = nth_scansion(read_line(reader), chosen, number)
    return [0] + with_length(found.syllables) + with_length(found.ways) + [1, found.cost]


def cheapest(metres, reader):
    chosen = metre_at(metres, reader.take())
    found = cheapest_scansion(read_line(reader), chosen)
    return [found.count, 1, found.cost] + with_length(found.syllables) + with_length(found.ways)


def which(metres, reader):
    numbers = metres_of(read_line(reader), metres)
    return [len(numbers)] + with_length(numbers)


def mends(metres, reader):
    chosen = metre_at(metres, reader.take())
    return [fewest_mends(read_line(reader), chosen)]


def poem(metres, reader):
    form = [metre_at(metres, number) for number in reader.take_row()]
    if not form:
        raise NoSuchMetre()
    lines = read_lines(reader)
    counts = scansion_counts(form, lines)
    holds = len(lines) % len(form) == 0 and 0 not in counts
    return [1 if holds else 0] + with_length(counts)


def forms(metres, reader):
    lines = read_lines(reader)
    if not lines:
        raise NotAsTold()
    form = shortest_form(lines, metres)
    return [len(form)] + with_length(form)


CALLS = (begins, metre, scans, scan, cheapest, which, mends, poem, forms)


def answer_to(metres, reader):
    call = CALLS[reader.take()]
    try:
        return call(metres, reader)
    except Refusal as refusal:
        return [refusal.number]


def answers(calls):
    metres = []
    told = []
    reader = Reader(calls)
    while reader.has_more():
        # Before each call stands 0: the one thing that this desk may be asked.
        reader.take()
        answer = answer_to(metres, Reader(reader.take_row()))
        told.extend(with_length(answer))
    return told

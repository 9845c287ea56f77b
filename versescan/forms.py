"""Which metres lines scan by, and the forms of poems."""

from versescan.refusals import NoneThere
from versescan.tally import Lanes, count_scansions


# The numbers of the metres that the line scans by, rising.
def metres_of(line, metres):
    lanes = Lanes(line)
    return [number for number, metre in enumerate(metres) if count_scansions(lanes, metre) > 0]


# Of each line how many scansions it has by the metre of the form that is its.
def scansion_counts(form, lines):
    return [count_scansions(Lanes(line), form[index % len(form)]) for index, line in enumerate(lines)]


# The least metre that stands in all of these lists; None if there's none.
def shared_metre(fitting):
    for number in fitting[0]:
        if all([number in numbers for numbers in fitting]):
            return number
    return None


def form_of_size(fitting, size):
    form = [shared_metre(fitting[first::size]) for first in range(size)]
    return None if None in form else form


def shortest_form(lines, metres):
    fitting = [metres_of(line, metres) for line in lines]
    for size in range(1, len(lines) + 1):
        # The last line has to be the form's last one.
        if len(lines) % size == 0:
            form = form_of_size(fitting, size)
            if form is not None:
                return form
    raise NoneThere()

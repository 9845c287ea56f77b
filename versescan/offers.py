"""What each syllable of a line may do in a scansion."""

from versescan.line import ANY, MUST_JOIN, taken_as


# Whether a syllable may run together; what each member, from 0, takes it as (0: it can't), and at which price.
class Offer:
    def __init__(self, may_join, taken, prices, word_ends):
        self.may_join = may_join
        self.taken = taken
        self.prices = prices
        self.word_ends = word_ends


def offer_of(weight, join, word_ends, mending):
    taken = [0] * (ANY + 1)
    prices = [0] * (ANY + 1)
    if join != MUST_JOIN:
        for member in range(1, ANY + 1):
            taken[member] = taken_as(weight, member)
            if mending and taken[member] == 0:
                taken[member] = member
                prices[member] = 1
    return Offer(join > 0, taken, prices, word_ends == 1)


def offers_of(line, mending):
    return [
        offer_of(weight, line.joins[index], line.ends[index], mending)
        for index, weight in enumerate(line.weights)
    ]


# The offer with all left out that doesn't make the syllable just this value.
def pinned(offer, value):
    taken = [what if what == value else 0 for what in offer.taken]
    return Offer(value == 0, taken, offer.prices, offer.word_ends)

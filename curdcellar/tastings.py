"""Tastings that part the sources of badness (points 25 and 26)."""

from curdcellar.things import wedge_names
from curdcellar.trace import recall


def pairs_of(many):
    pairs = []
    for low in range(many):
        pairs.extend([(low, high) for high in range(low + 1, many)])
    return pairs


# One bit for each pair of sources, so that a single | tells what several tastings part together.
def parted_bits(row, pairs):
    return sum([1 << place for place, pair in enumerate(pairs) if row[pair[0]] != row[pair[1]]])


# Of all lists with one tasting more that part the same pairs, one is enough.
def grown(wave, reached, tastings):
    wider = []
    for bits in wave:
        for parted, place in tastings.items():
            joined = bits | parted
            if joined not in reached:
                reached[joined] = reached[bits] + [place]
                wider.append(joined)
    return wider


def fewest_places(rows, pairs):
    goal = 0
    tastings = {}
    for place, row in enumerate(rows):
        parted = parted_bits(row, pairs)
        goal |= parted
        tastings.setdefault(parted, place)
    reached = {0: []}
    wave = [0]
    while goal not in reached:
        wave = grown(wave, reached, tastings)
    return sorted(reached[goal])


def parting(rows, many):
    pairs = pairs_of(many)
    unparted = [pair for pair in pairs if all([row[pair[0]] == row[pair[1]] for row in rows])]
    return (fewest_places(rows, pairs), unparted)


def unsold_wedges(book):
    sold = [entry[2] for entry in book if entry[1] == "sell"]
    wedges = []
    for entry in book:
        if entry[1] == "cut":
            wedges.extend([wedge for wedge in wedge_names(entry[2], len(entry[3])) if wedge not in sold])
    return wedges


def tasting_row(wedge, reached):
    return [wedge in ways for ways in reached]


def both(book, first, second, suspects):
    reached = [dict(recall(book, thing, day)) for thing, day in suspects]
    places = [place for place, ways in enumerate(reached) if first in ways and second in ways]
    wedges = unsold_wedges(book)
    rows = [tasting_row(wedge, [reached[place] for place in places]) for wedge in wedges]
    parted = parting(rows, len(places))
    return (places, [wedges[place] for place in parted[0]], [(places[low], places[high]) for low, high in parted[1]])

"""The touches of an entry, and the ways of badness through a book (points 23 and 24)."""

from curdcellar.things import wedge_names


def one_way_touches(entry):
    if entry[1] == "batch":
        return [(farm, entry[2]) for farm in sorted(set([farm for farm, grams in entry[3]]))]
    if entry[1] == "wheel":
        return [(entry[3], entry[2])]
    if entry[1] == "cut":
        return [(entry[2], wedge) for wedge in wedge_names(entry[2], len(entry[3]))]
    return []


# In a circle each thing touches each other one. It is not told as pairs: a full shelf has too many for each night.
def circles(entry):
    if entry[1] == "wash":
        return [[entry[2], entry[3], entry[4]]]
    if entry[1] != "night":
        return []
    by_shelf = {}
    for wheel, room, shelf, loss in entry[2]:
        by_shelf.setdefault(shelf, [shelf]).append(wheel)
    return list(by_shelf.values())


def touches(entry):
    pairs = one_way_touches(entry)
    for circle in circles(entry):
        for source in circle:
            pairs.extend([(source, target) for target in circle if target != source])
    return pairs


# One touch is enough for each thing that turns bad, and all go from things that were bad before the entry: two steps
# of a way are never of one entry.
def spreading(entry, ways):
    pairs = [pair for pair in one_way_touches(entry) if pair[0] in ways]
    for circle in circles(entry):
        sources = [thing for thing in circle if thing in ways]
        if sources:
            pairs.extend([(sources[0], thing) for thing in circle if thing not in ways])
    return pairs


def recall(book, name, day):
    # One way to each thing that is bad now is enough: a boiling ends all ways that came to the thing before.
    ways = {name: []}
    told = []
    for place, entry in enumerate(book):
        if entry[0] < day:
            continue
        if entry[1] == "boil":
            ways.pop(entry[2], None)
        pairs = spreading(entry, ways)
        for source, target in pairs:
            ways[target] = ways[source] + [(place, source, target)]
        if entry[1] == "cut":
            told.extend([(wedge, ways[wedge]) for wheel, wedge in pairs])
    return told

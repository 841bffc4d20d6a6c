"""What became of the grams and the nights of a book (points 27 to 29)."""

from curdcellar.things import wedge_names

HEADS = ("milk", "parted", "unparted", "lost", "tasted", "wedged", "crumbs", "left", "sold", "kept")


class Tally:
    def __init__(self, name, made):
        self.name = name
        self.made = made
        self.nights = 0
        self.lost = 0
        self.tasted = 0
        self.wedged = 0
        self.crumbs = 0
        self.left = made


def tally_night(tally, loss):
    tally.nights += 1
    tally.lost += loss
    tally.left -= loss


def tally_taste(tally, grams):
    tally.tasted += grams
    tally.left -= grams


def tally_cut(tally, parts, crumbs):
    tally.wedged = sum(parts)
    tally.crumbs = crumbs
    tally.left = 0


def wheel_tallies(book):
    tallies = {}
    for entry in book:
        if entry[1] == "wheel":
            tallies[entry[2]] = Tally(entry[2], entry[6])
        elif entry[1] == "night":
            for wheel, room, shelf, loss in entry[2]:
                tally_night(tallies[wheel], loss)
        elif entry[1] == "taste":
            tally_taste(tallies[entry[2]], entry[3])
        elif entry[1] == "cut":
            tally_cut(tallies[entry[2]], entry[3], entry[4])
    return list(tallies.values())


def wheel_rows(book):
    return [(tally.name, tally.made, tally.nights, tally.lost, tally.tasted, tally.wedged, tally.crumbs, tally.left)
            for tally in wheel_tallies(book)]


def rooms_by_night(book, wheel):
    rooms = []
    for entry in book:
        if entry[1] == "night":
            rooms.extend([room for name, room, shelf, loss in entry[2] if name == wheel])
    return rooms


def lyings(book, wheel):
    runs = []
    for room in rooms_by_night(book, wheel):
        if runs and runs[-1][0] == room:
            runs[-1] = (room, runs[-1][1] + 1)
        else:
            runs.append((room, 1))
    return runs


def milk_of(book):
    return sum([sum([grams for farm, grams in entry[3]]) for entry in book if entry[1] == "batch"])


def sold_of(book):
    grams_of = {}
    sold = 0
    for entry in book:
        if entry[1] == "cut":
            grams_of.update(dict(zip(wedge_names(entry[2], len(entry[3])), entry[3])))
        elif entry[1] == "sell":
            sold += grams_of[entry[2]]
    return sold


def totals(book):
    tallies = wheel_tallies(book)
    milk = milk_of(book)
    parted = sum([tally.made for tally in tallies])
    wedged = sum([tally.wedged for tally in tallies])
    sold = sold_of(book)
    return (milk, parted, milk - parted, sum([tally.lost for tally in tallies]),
            sum([tally.tasted for tally in tallies]), wedged, sum([tally.crumbs for tally in tallies]),
            sum([tally.left for tally in tallies]), sold, wedged - sold)

"""The things that a cellar holds by their names (points 14 to 20)."""

from curdcellar.plans import Job


class Thing:
    def __init__(self, kind, name):
        self.kind = kind
        self.name = name


class Room(Thing):
    def __init__(self, name, damp, warmth):
        Thing.__init__(self, "room", name)
        self.damp = damp
        self.warmth = warmth


class Shelf(Thing):
    def __init__(self, name, room):
        Thing.__init__(self, "shelf", name)
        self.room = room


class Sort(Thing):
    def __init__(self, name, mouldy, turn_gap, wash_gap, route):
        Thing.__init__(self, "sort", name)
        self.mouldy = mouldy
        self.turn_gap = turn_gap
        self.wash_gap = wash_gap
        self.rooms = [room for room, least, most in route]
        self.stays = [(least, most) for room, least, most in route]


# A brine or a cloth.
class Washer(Thing):
    def __init__(self, kind, name):
        Thing.__init__(self, kind, name)
        self.mouldy = False


class Batch(Thing):
    def __init__(self, name, grams):
        Thing.__init__(self, "batch", name)
        self.grams = grams


# The days are those from which its gaps are counted, the place is that of its room on its sort's route.
class Wheel(Thing):
    def __init__(self, name, recipe, shelf, grams, day):
        Thing.__init__(self, "wheel", name)
        self.recipe = recipe
        self.shelf = shelf
        self.grams = grams
        self.place = 0
        self.turn_day = day
        self.wash_day = day
        self.room_day = day
        self.gone = False


class Wedge(Thing):
    def __init__(self, name):
        Thing.__init__(self, "wedge", name)
        self.gone = False


def wedge_names(wheel, many):
    return [f"{wheel}/{number}" for number in range(1, many + 1)]


def stands_at(shelf, recipe, place):
    # The slice is empty where the route has no such place.
    return shelf.room.name in recipe.rooms[place:place + 1]


def night_loss(wheel):
    room = wheel.shelf.room
    return wheel.grams * (100 - room.damp) * room.warmth // 100000


def job_of(wheel, day):
    recipe = wheel.recipe
    return Job(recipe.mouldy, recipe.turn_gap, day - wheel.turn_day, recipe.wash_gap, day - wheel.wash_day,
               recipe.stays[wheel.place:], day - wheel.room_day)

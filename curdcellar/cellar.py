"""The cellar: its things, its deeds and its book (points 14 to 22)."""

from curdcellar.errors import BadName, BadNumber, Gone, Mouldy, Taken, TooMuch, Unknown, WrongRoom
from curdcellar.plans import Task
from curdcellar.things import Batch, Room, Shelf, Sort, Thing, Washer, Wedge, Wheel
from curdcellar.things import job_of, night_loss, stands_at, wedge_names
from curdcellar.words import is_name

MOST_DAMP = 100
MOST_WARMTH = 40
LONGEST_GAP = 60
MOST_GRAMS = 1000000
MOST_NIGHTS = 30


def check_bounds(number, least, most):
    if not least <= number <= most:
        raise BadNumber(f"not from {least} to {most}: {number}")


def check_grams(grams):
    check_bounds(grams, 1, MOST_GRAMS)


def check_gap(least, most):
    check_bounds(most, 1, LONGEST_GAP)
    check_bounds(least, 1, most)


def check_here(thing):
    if thing.gone:
        raise Gone("gone: " + thing.name)


def check_enough(grams, there):
    if grams > there:
        raise TooMuch(f"{grams} of {there} grams")


# A refused deed changes nothing: so each deed makes all its checks first, in the order of point 15.
class Cellar:
    def __init__(self):
        self.today = 0
        self.things = {}
        self.wheels = []
        self.entries = []

    def check_free(self, name):
        if not is_name(name):
            raise BadName(f"no name: {name!r}")
        if name in self.things:
            raise Taken(f"taken: {name}")

    def known(self, name, kind):
        thing = self.things.get(name)
        if thing is None or thing.kind != kind:
            raise Unknown(f"no {kind}: {name!r}")
        return thing

    def hold(self, thing):
        self.things[thing.name] = thing

    def new_room(self, name, damp, warmth):
        self.check_free(name)
        check_bounds(damp, 0, MOST_DAMP)
        check_bounds(warmth, 0, MOST_WARMTH)
        self.hold(Room(name, damp, warmth))

    def new_shelf(self, name, room):
        self.check_free(name)
        self.hold(Shelf(name, self.known(room, "room")))

    def new_sort(self, name, mouldy, turn_gap, wash_gap, route):
        self.check_free(name)
        rooms = [self.known(room, "room").name for room, least, most in route]
        for gap in [turn_gap, wash_gap] + [(least, most) for room, least, most in route]:
            check_gap(gap[0], gap[1])
        if len(set(rooms)) < len(rooms):
            raise WrongRoom("a room stands twice in the route")
        self.hold(Sort(name, mouldy, turn_gap, wash_gap, route))

    def new_farm(self, name):
        self.check_free(name)
        self.hold(Thing("farm", name))

    def new_brine(self, name):
        self.check_free(name)
        self.hold(Washer("brine", name))

    def new_cloth(self, name):
        self.check_free(name)
        self.hold(Washer("cloth", name))

    def new_batch(self, name, parts):
        self.check_free(name)
        for farm, grams in parts:
            self.known(farm, "farm")
        for farm, grams in parts:
            check_grams(grams)
        self.hold(Batch(name, sum([grams for farm, grams in parts])))
        self.entries.append((self.today, "batch", name, tuple(parts)))

    def new_wheel(self, name, batch, sort, shelf, grams):
        self.check_free(name)
        source = self.known(batch, "batch")
        recipe = self.known(sort, "sort")
        lies_on = self.known(shelf, "shelf")
        check_grams(grams)
        if not stands_at(lies_on, recipe, 0):
            raise WrongRoom(f"not in the first room of {sort}: {shelf}")
        check_enough(grams, source.grams)
        source.grams -= grams
        wheel = Wheel(name, recipe, lies_on, grams, self.today)
        self.hold(wheel)
        self.wheels.append(wheel)
        self.entries.append((self.today, "wheel", name, batch, sort, shelf, grams))

    def turn(self, wheel):
        turned = self.known(wheel, "wheel")
        check_here(turned)
        turned.turn_day = self.today
        self.entries.append((self.today, "turn", wheel))

    def wash(self, wheel, brine, cloth):
        washed = self.known(wheel, "wheel")
        washers = [self.known(brine, "brine"), self.known(cloth, "cloth")]
        check_here(washed)
        if not washed.recipe.mouldy and any([washer.mouldy for washer in washers]):
            raise Mouldy(f"mouldy: {brine} or {cloth}")
        if washed.recipe.mouldy:
            for washer in washers:
                washer.mouldy = True
        washed.wash_day = self.today
        self.entries.append((self.today, "wash", wheel, brine, cloth))

    def move(self, wheel, shelf):
        moved = self.known(wheel, "wheel")
        lies_on = self.known(shelf, "shelf")
        check_here(moved)
        if stands_at(lies_on, moved.recipe, moved.place + 1):
            moved.place += 1
            moved.room_day = self.today
        elif not stands_at(lies_on, moved.recipe, moved.place):
            raise WrongRoom(f"neither in the room of {wheel} nor in its next one: {shelf}")
        moved.shelf = lies_on
        self.entries.append((self.today, "move", wheel, shelf))

    def boil(self, thing):
        boiled = self.things.get(thing)
        if boiled is None or boiled.kind not in ("brine", "cloth", "shelf"):
            raise Unknown(f"no brine, cloth or shelf: {thing!r}")
        if boiled.kind != "shelf":
            boiled.mouldy = False
        self.entries.append((self.today, "boil", thing))

    def night(self, times=1):
        check_bounds(times, 1, MOST_NIGHTS)
        for passed in range(times):
            self.pass_night()

    def pass_night(self):
        rows = []
        for wheel in self.wheels:
            if not wheel.gone:
                loss = night_loss(wheel)
                wheel.grams -= loss
                rows.append((wheel.name, wheel.shelf.room.name, wheel.shelf.name, loss))
        self.entries.append((self.today, "night", tuple(rows)))
        self.today += 1

    def taste(self, wheel, grams):
        tasted = self.known(wheel, "wheel")
        check_grams(grams)
        check_here(tasted)
        check_enough(grams, tasted.grams)
        tasted.grams -= grams
        self.entries.append((self.today, "taste", wheel, grams))

    def cut(self, wheel, parts):
        whole = self.known(wheel, "wheel")
        for grams in parts:
            check_grams(grams)
        check_here(whole)
        check_enough(sum(parts), whole.grams)
        whole.gone = True
        for wedge in wedge_names(wheel, len(parts)):
            self.hold(Wedge(wedge))
        self.entries.append((self.today, "cut", wheel, tuple(parts), whole.grams - sum(parts)))

    def sell(self, wedge):
        sold = self.known(wedge, "wedge")
        check_here(sold)
        sold.gone = True
        self.entries.append((self.today, "sell", wedge))

    def book(self):
        return list(self.entries)

    def weight(self, wheel):
        weighed = self.known(wheel, "wheel")
        check_here(weighed)
        return weighed.grams

    def task(self, wheels, days, hands, brine, cloth):
        found = [self.known(wheel, "wheel") for wheel in wheels]
        washers = [self.known(brine, "brine"), self.known(cloth, "cloth")]
        for wheel in found:
            check_here(wheel)
        jobs = [job_of(wheel, self.today) for wheel in found]
        return Task(days, hands, jobs, any([washer.mouldy for washer in washers]))

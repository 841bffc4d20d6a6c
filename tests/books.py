"""Drawn books, and plain searches over them, for the tests of call-backs, tastings, reckoner and desk."""

from curdcellar.cellar import Cellar
from curdcellar.errors import CellarError

FARMS = ("f1", "f2", "f3")
BRINES = ("b1", "b2")
CLOTHS = ("c1", "c2")
SHELVES = ("s1", "s2", "t1", "t2")


def two_rooms():
    """Rooms r1 with the shelves s1, s2 and r2 with t1, t2; the sorts gouda and blue (mouldy) go through both."""
    cellar = Cellar()
    for room, shelves in (("r1", ("s1", "s2")), ("r2", ("t1", "t2"))):
        cellar.new_room(room, 50, 20)
        for shelf in shelves:
            cellar.new_shelf(shelf, room)
    for name, mouldy in (("gouda", False), ("blue", True)):
        cellar.new_sort(name, mouldy, (1, 60), (1, 60), [("r1", 1, 60), ("r2", 1, 60)])
    for farm in FARMS:
        cellar.new_farm(farm)
    for brine in BRINES:
        cellar.new_brine(brine)
    for cloth in CLOTHS:
        cellar.new_cloth(cloth)
    return cellar


def drawn_deed(chance, cellar, names, weights):
    deed = chance.choices(list(weights), list(weights.values()))[0]
    batches, wheels = names["batch"], names["wheel"]
    if deed == "batch":
        parts = [(chance.choice(FARMS), chance.randint(1, 9000)) for part in range(chance.randint(1, 4))]
        cellar.new_batch("m" + str(len(batches)), parts)
        batches.append("m" + str(len(batches)))
    elif deed == "wheel":
        told = (chance.choice(batches), chance.choice(("gouda", "blue")), chance.choice(SHELVES[:2]))
        cellar.new_wheel("w" + str(len(wheels)), *told, chance.randint(1, 3000))
        wheels.append("w" + str(len(wheels)))
    elif deed == "wash":
        cellar.wash(chance.choice(wheels), chance.choice(BRINES), chance.choice(CLOTHS))
    elif deed == "move":
        cellar.move(chance.choice(wheels), chance.choice(SHELVES))
    elif deed == "boil":
        cellar.boil(chance.choice(BRINES + CLOTHS + SHELVES))
    elif deed == "turn":
        cellar.turn(chance.choice(wheels))
    elif deed == "night":
        cellar.night(chance.choice((1, 1, 1, 2)))
    elif deed == "taste":
        cellar.taste(chance.choice(wheels), chance.randint(1, 200))
    elif deed == "cut":
        wheel = chance.choice(wheels)
        parts = [chance.randint(1, 400) for part in range(chance.randint(1, 3))]
        if chance.random() < 0.3:
            parts = [cellar.weight(wheel)]
        cellar.cut(wheel, parts)
        names["wedge"].extend(wheel + "/" + str(number) for number in range(1, len(parts) + 1))
    else:
        cellar.sell(chance.choice(names["wedge"]))


WEIGHTS = {"batch": 2, "wheel": 6, "wash": 7, "move": 4, "boil": 4, "turn": 1, "night": 5, "taste": 2, "cut": 3,
           "sell": 2}


def drawn_cellar(chance, deeds, **other):
    """A cellar in which so many deeds were drawn; those that it refused left no trace."""
    cellar, names = two_rooms(), {"batch": [], "wheel": [], "wedge": []}
    for number in range(deeds):
        try:
            drawn_deed(chance, cellar, names, dict(WEIGHTS, **other))
        except (CellarError, IndexError):
            pass
    return cellar


def things_of(book):
    """Each thing of the book that can be bad, by its kind."""
    found = {"farm": [], "batch": [], "wheel": [], "brine": [], "cloth": [], "shelf": []}
    for entry in book:
        if entry[1] == "batch":
            found["farm"].extend(farm for farm, grams in entry[3])
            found["batch"].append(entry[2])
        elif entry[1] == "wheel":
            found["wheel"].append(entry[2])
            found["shelf"].append(entry[5])
        elif entry[1] == "wash":
            found["brine"].append(entry[3])
            found["cloth"].append(entry[4])
        elif entry[1] == "move":
            found["shelf"].append(entry[3])
    return {kind: sorted(set(names)) for kind, names in found.items()}


def wedges_of(book):
    return [f"{entry[2]}/{number}" for entry in book if entry[1] == "cut" for number, grams in enumerate(entry[3], 1)]


def plain_touches(entry):
    """The touches as a set, by asking of all pairs of the entry's names."""
    word = entry[1]
    if word == "batch":
        return {(farm, entry[2]) for farm, grams in entry[3]}
    if word == "wheel":
        return {(entry[3], entry[2])}
    if word == "wash":
        return {(a, b) for a in entry[2:] for b in entry[2:] if a != b}
    if word == "cut":
        return {(entry[2], wedge) for wedge in wedges_of([entry])}
    if word == "night":
        lies = {row[0]: row[2] for row in entry[2]}
        lies.update({row[2]: row[2] for row in entry[2]})
        return {(a, b) for a in lies for b in lies if a != b and lies[a] == lies[b]}
    return set()


def all_ways(book, name, day):
    """Each way from the thing to a wedge, one after the other."""
    wedges = set(wedges_of(book))

    def on(thing, after, steps):
        for place in range(after, len(book)):
            if book[place][0] < day:
                continue
            if book[place][1:] == ("boil", thing):
                return
            for source, target in sorted(plain_touches(book[place])):
                if source == thing:
                    way = steps + [(place, source, target)]
                    if target in wedges:
                        yield way
                    yield from on(target, place + 1, way)

    yield from on(name, 0, [])


def plain_recall(book, name, day):
    """The wedges to which there is a way, in the book's order, by a search over (thing, entry that came to it)."""
    touched = [plain_touches(entry) if entry[0] >= day else set() for entry in book]
    seen, waiting = {(name, -1)}, [(name, -1)]
    while waiting:
        thing, came = waiting.pop()
        for place in range(came + 1, len(book)):
            if book[place][0] >= day and book[place][1:] == ("boil", thing):
                break
            for source, target in touched[place]:
                if source == thing and (target, place) not in seen:
                    seen.add((target, place))
                    waiting.append((target, place))
    reached = {thing for thing, came in seen if came >= 0}
    return [wedge for wedge in wedges_of(book) if wedge in reached]


def way_fault(book, name, day, wedge, way):
    """What is wrong with a way, or None."""
    if not isinstance(way, list) or not way:
        return "no list of steps"
    before, thing = -1, name
    for step in way:
        if not isinstance(step, tuple) or len(step) != 3:
            return "a step is no triple"
        place, source, target = step
        if not before < place < len(book):
            return "entries do not rise, or are not in the book"
        if book[place][0] < day:
            return "an entry ahead of the day"
        if source != thing:
            return "a step does not go on from the last one"
        if (source, target) not in plain_touches(book[place]):
            return "a step is no touch"
        if any(entry[0] >= day and entry[1:] == ("boil", source) for entry in book[before + 1:place]):
            return "boiled between"
        before, thing = place, target
    return None if thing == wedge else "does not end at the wedge"

"""A plain model of the cellar, which names all refusals that are due, and deeds drawn for it."""

ORDER = ("BadName", "Taken", "Unknown", "BadNumber", "Gone", "WrongRoom", "Mouldy", "TooMuch")
SIGNS = "abcdefghijklmnopqrstuvwxyz0123456789"
GRAMS = (-1, 0, 1, 7, 50, 300, 2000, 40000, 1000000, 1000001)


class Model:
    """Things are dicts by name; each deed tells the refusals that are due and what it would do."""

    def __init__(self):
        self.today, self.things, self.entries = 0, {}, []

    def new_name(self, name):
        due = [] if 1 <= len(name) <= 12 and all(sign in SIGNS for sign in name) else ["BadName"]
        return due + (["Taken"] if name in self.things else [])

    def ask(self, due, name, *kinds):
        thing = self.things.get(name, {"kind": ""})
        if thing["kind"] not in kinds:
            due.append("Unknown")
            return None
        if thing.get("gone"):
            due.append("Gone")
        return thing

    def bound(self, due, number, least, most):
        if number < least or number > most:
            due.append("BadNumber")

    def new(self, kind, name, **told):
        self.things[name] = dict(told, kind=kind, name=name)

    def write(self, *entry):
        self.entries.append((self.today,) + entry)

    def asked(self, deed, told):
        """The first refusal's class name, or "done", and then the deed is done here."""
        if deed in ("new_farm", "new_brine", "new_cloth"):
            due, do = self.new_plain(deed[4:], *told)
        else:
            due, do = getattr(self, deed)(*told)
        if due:
            return min(due, key=ORDER.index)
        do()
        return "done"

    def new_room(self, name, damp, warmth):
        due = self.new_name(name)
        self.bound(due, damp, 0, 100)
        self.bound(due, warmth, 0, 40)
        return due, lambda: self.new("room", name, damp=damp, warmth=warmth)

    def new_shelf(self, name, room):
        due = self.new_name(name)
        self.ask(due, room, "room")
        return due, lambda: self.new("shelf", name, room=room)

    def new_sort(self, name, mouldy, turn_gap, wash_gap, route):
        due = self.new_name(name)
        for room, least, most in [(None,) + turn_gap, (None,) + wash_gap] + route:
            if room is not None:
                self.ask(due, room, "room")
            if not 1 <= least <= most <= 60:
                due.append("BadNumber")
        if len(set(room for room, least, most in route)) != len(route):
            due.append("WrongRoom")
        return due, lambda: self.new("sort", name, mouldy=mouldy, turn=turn_gap, wash=wash_gap, route=list(route))

    def new_plain(self, kind, name):
        return self.new_name(name), lambda: self.new(kind, name, mould=False)

    def new_batch(self, name, parts):
        due = self.new_name(name)
        for farm, grams in parts:
            self.ask(due, farm, "farm")
            self.bound(due, grams, 1, 1000000)

        def do():
            self.new("batch", name, left=sum(grams for farm, grams in parts))
            self.write("batch", name, tuple(parts))
        return due, do

    def new_wheel(self, name, batch, sort, shelf, grams):
        due = self.new_name(name)
        source, recipe = self.ask(due, batch, "batch"), self.ask(due, sort, "sort")
        place = self.ask(due, shelf, "shelf")
        self.bound(due, grams, 1, 1000000)
        if recipe and place and recipe["route"][0][0] != place["room"]:
            due.append("WrongRoom")
        if source and source["left"] < grams:
            due.append("TooMuch")

        def do():
            source["left"] -= grams
            day = self.today
            self.new("wheel", name, sort=recipe, shelf=shelf, grams=grams, turned=day, washed=day, moved=day)
            self.write("wheel", name, batch, sort, shelf, grams)
        return due, do

    def turn(self, wheel):
        due = []
        thing = self.ask(due, wheel, "wheel")
        return due, lambda: (thing.update(turned=self.today), self.write("turn", wheel))

    def wash(self, wheel, brine, cloth):
        due = []
        thing, tools = self.ask(due, wheel, "wheel"), [self.ask(due, brine, "brine"), self.ask(due, cloth, "cloth")]
        if thing and not thing["sort"]["mouldy"] and any(tool and tool["mould"] for tool in tools):
            due.append("Mouldy")

        def do():
            for tool in tools:
                tool["mould"] = tool["mould"] or thing["sort"]["mouldy"]
            thing["washed"] = self.today
            self.write("wash", wheel, brine, cloth)
        return due, do

    def rooms_from(self, thing):
        """The rest of the route, from the room in which the wheel lies on."""
        rooms = [room for room, least, most in thing["sort"]["route"]]
        return thing["sort"]["route"][rooms.index(self.things[thing["shelf"]]["room"]):]

    def move(self, wheel, shelf):
        due = []
        thing, place = self.ask(due, wheel, "wheel"), self.ask(due, shelf, "shelf")
        rest = [room for room, least, most in self.rooms_from(thing)] if thing else []
        if thing and place and place["room"] not in rest[:2]:
            due.append("WrongRoom")

        def do():
            if place["room"] != rest[0]:
                thing["moved"] = self.today
            thing["shelf"] = shelf
            self.write("move", wheel, shelf)
        return due, do

    def boil(self, name):
        due = []
        thing = self.ask(due, name, "brine", "cloth", "shelf")
        return due, lambda: (thing.update(mould=False), self.write("boil", name))

    def night(self, times):
        due = []
        self.bound(due, times, 1, 30)

        def do():
            for _ in range(times):
                rows = []
                for thing in self.things.values():
                    if thing["kind"] == "wheel" and not thing.get("gone"):
                        room = self.things[self.things[thing["shelf"]]["room"]]
                        loss = thing["grams"] * (100 - room["damp"]) * room["warmth"] // 100000
                        thing["grams"] -= loss
                        rows.append((thing["name"], room["name"], thing["shelf"], loss))
                self.write("night", tuple(rows))
                self.today += 1
        return due, do

    def taste(self, wheel, grams):
        due = []
        thing = self.ask(due, wheel, "wheel")
        self.bound(due, grams, 1, 1000000)
        if thing and thing["grams"] < grams:
            due.append("TooMuch")
        return due, lambda: (thing.update(grams=thing["grams"] - grams), self.write("taste", wheel, grams))

    def cut(self, wheel, parts):
        due = []
        thing = self.ask(due, wheel, "wheel")
        for grams in parts:
            self.bound(due, grams, 1, 1000000)
        if thing and thing["grams"] < sum(parts):
            due.append("TooMuch")

        def do():
            thing["gone"] = True
            for number, grams in enumerate(parts, start=1):
                self.new("wedge", wheel + "/" + str(number))
            self.write("cut", wheel, tuple(parts), thing["grams"] - sum(parts))
        return due, do

    def sell(self, wedge):
        due = []
        thing = self.ask(due, wedge, "wedge")
        return due, lambda: (thing.update(gone=True), self.write("sell", wedge))


class Draw:
    def __init__(self, chance, model):
        self.chance, self.model = chance, model

    def known(self, kind):
        names = [name for name, thing in self.model.things.items() if thing["kind"] == kind]
        if names and self.chance.random() < 0.93:
            return self.chance.choice(names)
        return self.chance.choice(list(self.model.things) + ["nobody", "", "w1/9"])

    def fresh(self):
        if self.chance.random() < 0.9:
            return "n" + str(len(self.model.things))
        return self.chance.choice(["", "No", "a b", "x" * 13] + list(self.model.things))

    def gap(self):
        return self.chance.choice([(1, 3), (2, 5), (1, 60), (60, 60), (3, 9), (0, 3), (4, 3), (1, 61)][:
                                  8 if self.chance.random() < 0.1 else 5])

    def grams(self):
        return self.chance.choice(GRAMS[2:-2] if self.chance.random() < 0.9 else GRAMS)

    def told(self, deed):
        pick, many = self.known, self.chance.randint
        return {
            "new_room": lambda: (self.fresh(), self.chance.choice([0, 20, 50, 90, 100, 101]), many(0, 41)),
            "new_shelf": lambda: (self.fresh(), pick("room")),
            "new_sort": lambda: (self.fresh(), self.chance.random() < 0.4, self.gap(), self.gap(),
                                 [(pick("room"),) + self.gap() for _ in range(many(1, 3))]),
            "new_farm": lambda: (self.fresh(),), "new_brine": lambda: (self.fresh(),),
            "new_cloth": lambda: (self.fresh(),),
            "new_batch": lambda: (self.fresh(), [(pick("farm"), self.grams()) for _ in range(many(1, 6))]),
            "new_wheel": lambda: (self.fresh(), pick("batch"), pick("sort"), pick("shelf"), self.grams()),
            "turn": lambda: (pick("wheel"),), "wash": lambda: (pick("wheel"), pick("brine"), pick("cloth")),
            "move": lambda: (pick("wheel"), pick("shelf")),
            "boil": lambda: (pick(self.chance.choice(["brine", "cloth", "shelf"])),),
            "night": lambda: (self.chance.choice([1, 1, 1, 2, 5, 0, 31]),),
            "taste": lambda: (pick("wheel"), self.grams()),
            "cut": lambda: (pick("wheel"), [self.grams() for _ in range(many(1, 3))]),
            "sell": lambda: (pick("wedge"),),
        }[deed]()


SETUP = ("new_room", "new_room", "new_room", "new_shelf", "new_shelf", "new_shelf", "new_shelf", "new_sort", "new_sort",
         "new_sort", "new_farm", "new_farm", "new_brine", "new_cloth", "new_batch", "new_batch")
DEEDS = SETUP + ("new_wheel",) * 20 + ("wash", "move") * 12 + ("turn", "boil", "night", "taste", "cut", "sell") * 5

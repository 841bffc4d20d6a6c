"""The parts together: drawn lines at a desk against the plain model, and what is asked of the desk's book."""

import copy
import random
import re
import unittest

from books import plain_recall, things_of, way_fault, wedges_of
from curdcellar.desk import Desk, answers
from curdcellar.finder import find
from curdcellar.plans import faults
from curdcellar.reckoner import HEADS, lyings, totals, wheel_rows
from curdcellar.tastings import both
from curdcellar.trace import recall
from model import DEEDS, SETUP, Draw, Model

WORDS = {"BadName": "refused: name", "Taken": "refused: taken", "Unknown": "refused: unknown",
         "BadNumber": "refused: number", "Gone": "refused: gone", "WrongRoom": "refused: room",
         "Mouldy": "refused: mouldy", "TooMuch": "refused: much", "done": "ok"}

# W stands for a word and N for the word of a number.
SHAPES = ("room W N N", "shelf W W", "sort W (clean|mouldy) N N N N( W N N){1,3}", "farm W", "brine W", "cloth W",
          "batch W( W N){1,6}", "wheel W W W W N", "turn W", "wash W W W", "move W W", "boil W", "night N", "taste W N",
          "cut W( N){1,8}", "sell W", "weigh W", "today", "sums", "back W N", "way W N W")
NEW = ("room", "shelf", "sort", "farm", "brine", "cloth", "batch", "wheel")


def line_of(deed, told):
    """A line that asks for the deed."""
    if deed == "new_sort":
        name, mouldy, turn_gap, wash_gap, route = told
        told = (name, "mouldy" if mouldy else "clean", *turn_gap, *wash_gap) + sum(route, ())
    elif deed == "new_batch":
        told = (told[0],) + sum(told[1], ())
    elif deed == "cut":
        told = (told[0], *told[1])
    return " ".join([deed.removeprefix("new_")] + [str(part) for part in told])


def spoilt(chance, line):
    """The line with a word taken away, put in, or changed, or with more blanks."""
    parts = line.split(" ")
    place = chance.randrange(len(parts))
    way = chance.randrange(5)
    if way == 0:
        del parts[place]
    elif way == 1:
        parts.insert(place, chance.choice(parts))
    elif way == 2:
        parts[place] = chance.choice(("x", "0", "1", "0003", "12345678", "-1", "clean", "neither", "cut", "Night"))
    return (" " * chance.randint(1, 3) if way > 2 else " ").join([" " * (way % 2)] * (way > 3) + parts)


def told_of(key, parts):
    """The arguments of the deed, from the words behind the key."""
    if key == "sort":
        route = [tuple(parts[place:place + 3]) for place in range(6, len(parts), 3)]
        return (parts[0], parts[1] == "mouldy", tuple(parts[2:4]), tuple(parts[4:6]), route)
    if key == "batch":
        return (parts[0], list(zip(parts[1::2], parts[2::2])))
    return (parts[0], parts[1:]) if key == "cut" else tuple(parts)


class PlainDesk:
    def __init__(self):
        self.model = Model()

    def answer(self, line):
        text = re.sub(" +", " ", line.strip(" "))
        for shape in SHAPES:
            if re.fullmatch(shape.replace("W", "[^ ]+").replace("N", "[^ ]+"), text):
                if not re.fullmatch(shape.replace("W", "[^ ]+").replace("N", "[0-9]{1,7}"), text):
                    return "refused: number"
                return self.of_words(shape, text.split(" "))
        return "refused: line"

    def of_words(self, shape, parts):
        key = parts[0]
        kinds = re.sub(r"\{.*\}|[()]", "", shape).split(" ")
        again = {"sort": 3, "batch": 2, "cut": 1}.get(key, 1)
        while len(kinds) < len(parts):
            kinds.append(kinds[-again])
        parts = [int(part) if kind == "N" else part for kind, part in zip(kinds, parts, strict=True)]
        if key in ("weigh", "today", "sums", "back", "way"):
            return getattr(self, key)(*parts[1:])
        return WORDS[self.model.asked("new_" + key if key in NEW else key, told_of(key, parts[1:]))]

    def weigh(self, wheel):
        due = []
        thing = self.model.ask(due, wheel, "wheel")
        return WORDS[due[0]] if due else str(thing["grams"])

    def today(self):
        return str(self.model.today)

    def sums(self):
        entries, wheels = self.model.entries, [t for t in self.model.things.values() if t["kind"] == "wheel"]
        wedges = {}
        for entry in entries:
            if entry[1] == "cut":
                wedges.update({f"{entry[2]}/{place}": grams for place, grams in enumerate(entry[3], start=1)})
        milk = sum(grams for entry in entries if entry[1] == "batch" for farm, grams in entry[3])
        found = {
            "milk": milk, "unparted": sum(t["left"] for t in self.model.things.values() if t["kind"] == "batch"),
            "parted": sum(entry[6] for entry in entries if entry[1] == "wheel"),
            "lost": sum(row[3] for entry in entries if entry[1] == "night" for row in entry[2]),
            "tasted": sum(entry[3] for entry in entries if entry[1] == "taste"), "wedged": sum(wedges.values()),
            "crumbs": sum(entry[4] for entry in entries if entry[1] == "cut"),
            "left": sum(t["grams"] for t in wheels if not t.get("gone")),
            "sold": sum(grams for name, grams in wedges.items() if self.model.things[name].get("gone")),
            "kept": sum(grams for name, grams in wedges.items() if not self.model.things[name].get("gone")),
        }
        return " ".join(f"{head} {found[head]}" for head in HEADS)

    def back(self, name, day):
        return " ".join(plain_recall(self.model.entries, name, day)) or "none"

    def way(self, name, day, wedge):
        return "some" if wedge in plain_recall(self.model.entries, name, day) else "none"


class Together(unittest.TestCase):
    def setUp(self):
        self.seen = {}

    def question(self, chance, draw, model):
        wedge = draw.known("wedge") or "x"
        names = [name for kind in things_of(model.entries).values() for name in kind]
        likely = [name for name in names if wedge in plain_recall(model.entries, name, 0)]
        name = chance.choice(likely) if likely else draw.known("shelf") or "x"
        day = chance.choice((0, 0, 1, model.today // 2, model.today, model.today + 1))
        return chance.choice((f"weigh {draw.known('wheel')}", "today", "sums", f"back {name} {day}",
                              f"way {name} {day} {wedge}", f"way {name} 0 {wedge}"))

    def compare_answers(self, desk, plain, line):
        given = line
        answer, right = desk.answer(line), plain.answer(line)
        if right == "some":
            name, day, wedge = line.split()[1:]
            steps = [re.fullmatch(r"([0-9]+):([^>]+)>(.+)", step).groups() for step in answer.split(" ")]
            steps = [(int(place), source, target) for place, source, target in steps]
            self.assertIsNone(way_fault(desk.cellar.book(), name, int(day), wedge, steps), (line, answer))
        else:
            self.assertEqual(answer, right, line)
        self.assertEqual(line, given)
        kind = right if right[:2] in ("re", "ok", "no", "so") else "told"
        self.seen[kind] = self.seen.get(kind, 0) + 1
        return answer

    def test_drawn_lines(self):
        for seed in range(40):
            chance = random.Random(seed)
            desk, plain = Desk(), PlainDesk()
            draw = Draw(chance, plain.model)
            lines, told = [], []
            for number in range(260):
                deed = SETUP[number // 2] if number < 2 * len(SETUP) else chance.choice(DEEDS)
                line = line_of(deed, draw.told(deed))
                if number > 40 and chance.random() < 0.15:
                    line = self.question(chance, draw, plain.model)
                if chance.random() < 0.1:
                    line = spoilt(chance, line)
                with self.subTest(seed=seed, line=line):
                    lines.append(line)
                    told.append(self.compare_answers(desk, plain, line))
            with self.subTest(seed=seed):
                self.assertEqual(answers(lines), told)
                self.assertEqual(desk.cellar.book(), plain.model.entries)
                self.compare_book(chance, desk.cellar, plain)
        for kind in list(WORDS.values()) + ["refused: line", "told", "none", "some"]:
            self.assertGreater(self.seen.get(kind, 0), 20, (kind, self.seen))

    def compare_book(self, chance, cellar, plain):
        book = cellar.book()
        before = copy.deepcopy(book)
        self.assertEqual(" ".join(f"{h} {n}" for h, n in zip(HEADS, totals(book), strict=True)), plain.sums())
        for row in wheel_rows(book):
            thing = plain.model.things[row[0]]
            self.assertEqual(row[7], 0 if thing.get("gone") else cellar.weight(row[0]))
            self.assertEqual(sum(nights for room, nights in lyings(book, row[0])), row[2])
            route = [room for room, least, most in thing["sort"]["route"]]
            rooms = [room for room, nights in lyings(book, row[0])]
            self.assertEqual(rooms, [room for room in route if room in rooms])
        names = [name for kind in things_of(book).values() for name in kind]
        suspects = [(chance.choice(names), chance.randint(0, 3)) for suspect in range(6)] if names else []
        for wedge in wedges_of(book)[:3]:
            places = both(book, wedge, wedge, suspects)[0]
            self.assertEqual(places, [place for place, suspect in enumerate(suspects)
                                      if wedge in dict(recall(book, *suspect))])
        self.assertEqual((book, cellar.book()), (before, before))

    def test_a_plan_is_done_in_the_desks_cellar(self):
        """A plan that is let by can be done day by day, and keeps all gaps of its wheels."""
        desk = Desk()
        for line in ("room r1 90 10", "room r2 90 10", "shelf s1 r1", "shelf s2 r2", "brine b", "cloth c", "farm f",
                     "sort gouda clean 1 2 1 3 r1 1 3 r2 1 60", "sort blue mouldy 1 3 1 2 r1 2 4 r2 1 60",
                     "batch m f 100000", "wheel g m gouda s1 5000", "wheel h m gouda s1 5000", "wheel k m blue s1 5000",
                     "wash k b c", "night 1"):
            self.assertEqual(desk.answer(line), "ok")
        task = desk.cellar.task(["g", "h", "k"], 4, [([5, 5, 5, 5], 14), ([3, 0, 3, 3], 9)], "b", "c")
        answer = find(task)
        self.assertEqual(answer[0], "plan")
        self.assertEqual(faults(task, answer[1]), [])
        self.assertTrue(task.mouldy)
        for day in range(4):
            for when, hand, deed, job in answer[1]:
                wheel = "ghk"[job]
                if when == day:
                    lines = {"turn": [f"turn {wheel}"], "wash": [f"wash {wheel} b c"], "boil": ["boil b", "boil c"],
                             "move": [f"move {wheel} s2"]}[deed]
                    self.assertEqual([desk.answer(line) for line in lines], ["ok"] * len(lines))
            self.assertEqual(desk.answer("night 1"), "ok")
        later = desk.cellar.task(["g", "h", "k"], 1, [([9], 9)], "b", "c")
        for job in later.jobs:
            self.assertLessEqual(job.turned, job.turn_gap[1])
            self.assertLessEqual(job.washed, job.wash_gap[1])
            self.assertLessEqual(job.lain, job.stays[0][1])


if __name__ == "__main__":
    unittest.main()

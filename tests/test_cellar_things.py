"""Points 14 to 16: names of things, the order of refusals, rooms, shelves and sorts."""

import unittest

from cellars import WIDE, CellarChecks, furnished, with_wheels
from curdcellar.cellar import Cellar
from curdcellar.errors import BadName, BadNumber, Gone, Mouldy, Taken, TooMuch, Unknown, WrongRoom

NO_NAMES = ("", "x" * 13, "Room", "rOom", "a b", " a", "a ", "a-b", "a/b", "g1/1", "a_b", "a.b", "x" * 200, " ")
NAMES = ("a", "0", "z9", "x" * 12, "123456789012")
NEW = (
    ("new_room", 50, 10), ("new_shelf", "r1"), ("new_sort", False, (1, 3), (1, 3), [("r1", 1, 10)]), ("new_farm",),
    ("new_brine",), ("new_cloth",), ("new_batch", [("hill", 100)]), ("new_wheel", "milk", "gouda", "s1", 100),
)
# A thing of each kind in a cellar with wheels, the wheel g2 cut.
THINGS = {"room": "r1", "shelf": "s1", "sort": "gouda", "farm": "hill", "brine": "brine1", "cloth": "cloth1",
          "batch": "milk", "wheel": "g1", "wedge": "g2/1"}


def with_wedge():
    cellar = with_wheels()
    cellar.cut("g2", [100, 200])
    return cellar


class Names(CellarChecks, unittest.TestCase):
    def test_no_names(self):
        for deed in NEW:
            for name in NO_NAMES:
                self.refused(BadName, with_wheels(), deed[0], name, *deed[1:])

    def test_names(self):
        for deed in NEW:
            cellar = with_wheels()
            for name in NAMES:
                self.done(cellar, deed[0], name, *deed[1:])
                self.refused(Taken, cellar, deed[0], name, *deed[1:])

    def test_taken_by_a_thing_of_each_kind(self):
        for deed in NEW:
            for kind, name in THINGS.items():
                # A wedge's name is no name, so BadName comes first.
                self.refused(BadName if kind == "wedge" else Taken, with_wedge(), deed[0], name, *deed[1:])

    def test_a_cut_wheels_name_stays_taken(self):
        for deed in NEW:
            self.refused(Taken, with_wedge(), deed[0], "g2", *deed[1:])

    def test_unlike_names_are_free(self):
        cellar = Cellar()
        for name in ("a", "aa", "a0", "0a", "aaa"):
            self.done(cellar, "new_farm", name)

    def test_two_cellars_share_nothing(self):
        first, second = Cellar(), Cellar()
        first.new_room("a", 1, 1)
        first.new_farm("f")
        first.new_batch("b", [("f", 10)])
        first.night()
        self.refused(Unknown, second, "new_shelf", "s", "a")
        self.done(second, "new_farm", "a")
        self.assertEqual((second.today, second.book()), (0, []))
        self.assertEqual((first.today, len(first.book())), (1, 2))

    def test_the_first_day(self):
        self.assertEqual(Cellar().today, 0)
        self.assertEqual(Cellar().book(), [])


class Refusals(CellarChecks, unittest.TestCase):
    def test_unknown_by_each_other_kind(self):
        asked = (
            ("room", "new_shelf", lambda name: ("n", name)),
            ("room", "new_sort", lambda name: ("n", False, WIDE, WIDE, [(name, 1, 2)])),
            ("room", "new_sort", lambda name: ("n", False, WIDE, WIDE, [("r1", 1, 2), ("r2", 1, 2), (name, 1, 2)])),
            ("farm", "new_batch", lambda name: ("n", [(name, 5)])),
            ("farm", "new_batch", lambda name: ("n", [("hill", 5), (name, 5)])),
            ("batch", "new_wheel", lambda name: ("n", name, "gouda", "s1", 5)),
            ("sort", "new_wheel", lambda name: ("n", "milk", name, "s1", 5)),
            ("shelf", "new_wheel", lambda name: ("n", "milk", "gouda", name, 5)),
            ("wheel", "turn", lambda name: (name,)),
            ("wheel", "wash", lambda name: (name, "brine1", "cloth1")),
            ("brine", "wash", lambda name: ("g1", name, "cloth1")),
            ("cloth", "wash", lambda name: ("g1", "brine1", name)),
            ("wheel", "move", lambda name: (name, "s1")),
            ("shelf", "move", lambda name: ("g1", name)),
            ("wheel", "taste", lambda name: (name, 5)),
            ("wheel", "cut", lambda name: (name, [5])),
            ("wedge", "sell", lambda name: (name,)),
            ("wheel", "weight", lambda name: (name,)),
            ("wheel", "task", lambda name: (["b1", name], 2, [], "brine1", "cloth1")),
            ("brine", "task", lambda name: ([], 2, [], name, "cloth1")),
            ("cloth", "task", lambda name: ([], 2, [], "brine1", name)),
        )
        for kind, deed, told in asked:
            others = [name for other, name in THINGS.items() if other != kind]
            for name in others + ["nobody", "", "No Name", "g1/9"]:
                self.refused(Unknown, with_wedge(), deed, *told(name))

    def test_new_things_first_refusal(self):
        cellar = furnished()
        twice = [("r1", 1, 2), ("r1", 1, 2)]
        for error, name, route in (
            (BadName, "X", [("no", 0, 2), ("no", 1, 2)]), (Taken, "hill", [("no", 0, 2), ("no", 1, 2)]),
            (Unknown, "n", [("no", 0, 2), ("no", 1, 2)]), (Unknown, "n", [("r1", 0, 2), ("r1", 1, 2), ("no", 1, 2)]),
            (BadNumber, "n", [("r1", 0, 2), ("r1", 1, 2)]), (WrongRoom, "n", twice),
        ):
            self.refused(error, cellar, "new_sort", name, False, WIDE, WIDE, route)
        self.refused(BadNumber, cellar, "new_sort", "n", False, (0, 1), WIDE, twice)
        self.refused(BadNumber, cellar, "new_sort", "n", False, WIDE, (2, 1), twice)
        self.refused(Unknown, cellar, "new_sort", "n", False, (0, 1), (2, 1), [("no", 1, 2)])
        self.refused(BadName, cellar, "new_room", "X", 101, 41)
        self.refused(Taken, cellar, "new_room", "hill", 101, 41)
        self.refused(BadName, cellar, "new_shelf", "", "no")
        self.refused(Taken, cellar, "new_shelf", "hill", "no")
        self.refused(BadName, cellar, "new_batch", "X", [("no", 0)])
        self.refused(Taken, cellar, "new_batch", "hill", [("no", 0)])
        self.refused(Unknown, cellar, "new_batch", "n", [("hill", 0), ("no", 1)])
        self.assertEqual(len(cellar.book()), 1)
        for error, told in (
            (BadName, ("X", "no", "no", "no", 0)), (Taken, ("hill", "no", "no", "no", 0)),
            (Unknown, ("n", "no", "gouda", "s2", 1000001)), (Unknown, ("n", "milk", "no", "s2", 1000001)),
            (Unknown, ("n", "milk", "gouda", "no", 1000001)), (BadNumber, ("n", "milk", "gouda", "s2", 1000001)),
            (BadNumber, ("n", "milk", "gouda", "s2", 0)), (WrongRoom, ("n", "dry", "gouda", "s2", 6)),
            (TooMuch, ("n", "dry", "gouda", "s1", 6)),
        ):
            cellar = furnished()
            cellar.new_batch("dry", [("hill", 5)])
            self.refused(error, cellar, "new_wheel", *told)

    def test_deeds_first_refusal(self):
        cellar = with_wedge()
        cellar.wash("b1", "brine1", "cloth1")
        cellar.sell("g2/1")
        for error, deed, told in (
            (Unknown, "wash", ("g2", "no", "cloth1")), (Unknown, "wash", ("g2", "brine1", "no")),
            (Unknown, "wash", ("no", "brine1", "cloth1")), (Gone, "wash", ("g2", "brine1", "cloth1")),
            (Mouldy, "wash", ("g1", "brine1", "cloth1")),
            (Unknown, "move", ("g2", "no")), (Gone, "move", ("g2", "s3")), (WrongRoom, "move", ("g1", "s3")),
            (Unknown, "taste", ("no", 0)), (BadNumber, "taste", ("g2", 0)), (BadNumber, "taste", ("g2", 1000001)),
            (Gone, "taste", ("g2", 1000000)), (BadNumber, "taste", ("g1", 1000001)), (TooMuch, "taste", ("g1", 10001)),
            (Unknown, "cut", ("no", [0])), (BadNumber, "cut", ("g2", [1, 0])), (Gone, "cut", ("g2", [1000000])),
            (BadNumber, "cut", ("g1", [1000000, 1000001])), (TooMuch, "cut", ("g1", [10001])),
            (Unknown, "task", (["g2", "no"], 1, [], "brine1", "cloth1")),
            (Unknown, "task", (["g2"], 1, [], "no", "cloth1")), (Unknown, "task", (["g2"], 1, [], "brine1", "no")),
            (Gone, "task", (["g1", "g2"], 1, [], "brine1", "cloth1")),
            (Gone, "sell", ("g2/1",)), (Unknown, "sell", ("g2/3",)), (Gone, "turn", ("g2",)), (Gone, "weight", ("g2",)),
        ):
            self.refused(error, cellar, deed, *told)

    def test_a_refused_name_stays_free(self):
        cellar = furnished()
        book = cellar.book()
        self.refused(BadNumber, cellar, "new_room", "n", 101, 0)
        self.refused(Unknown, cellar, "new_shelf", "n", "no")
        self.refused(WrongRoom, cellar, "new_sort", "n", True, WIDE, WIDE, [("r1", 1, 1), ("r1", 1, 1)])
        self.refused(BadNumber, cellar, "new_batch", "n", [("hill", 0)])
        self.refused(WrongRoom, cellar, "new_wheel", "n", "milk", "gouda", "s2", 5)
        self.assertEqual(cellar.book(), book)
        self.done(cellar, "new_farm", "n")


class RoomsAndShelves(CellarChecks, unittest.TestCase):
    def test_damp_and_warmth(self):
        for damp in (-1, 0, 1, 50, 99, 100, 101, 9999999):
            for warmth in (-1, 0, 1, 20, 39, 40, 41, 9999999):
                if 0 <= damp <= 100 and 0 <= warmth <= 40:
                    self.done(Cellar(), "new_room", "a", damp, warmth)
                else:
                    self.refused(BadNumber, Cellar(), "new_room", "a", damp, warmth)

    def test_new_things_write_nothing(self):
        cellar = Cellar()
        cellar.new_room("a", 1, 1)
        cellar.new_shelf("b", "a")
        cellar.new_sort("c", True, WIDE, WIDE, [("a", 1, 2)])
        cellar.new_farm("d")
        cellar.new_brine("e")
        cellar.new_cloth("f")
        self.assertEqual(cellar.book(), [])


class Sorts(CellarChecks, unittest.TestCase):
    def gaps(self):
        """Pairs with whether they lie within the bounds."""
        for least in (-1, 0, 1, 2, 30, 59, 60, 61):
            for most in (-1, 0, 1, 2, 30, 59, 60, 61):
                yield (least, most), 1 <= least <= most <= 60

    def test_gaps(self):
        for gap, right in self.gaps():
            for turn_gap, wash_gap in ((gap, WIDE), (WIDE, gap)):
                told = ("n", False, turn_gap, wash_gap, [("r1", 1, 1)])
                if right:
                    self.done(furnished(), "new_sort", *told)
                else:
                    self.refused(BadNumber, furnished(), "new_sort", *told)

    def test_stays(self):
        for stay, right in self.gaps():
            for place in range(3):
                route = [("r1", 1, 1), ("r2", 1, 60), ("r3", 60, 60)]
                route[place] = (route[place][0],) + stay
                if right:
                    self.done(furnished(), "new_sort", "n", True, WIDE, WIDE, route)
                else:
                    self.refused(BadNumber, furnished(), "new_sort", "n", True, WIDE, WIDE, route)

    def test_a_room_twice(self):
        for rooms in (("r1", "r1"), ("r1", "r1", "r2"), ("r2", "r1", "r2"), ("r2", "r1", "r1"), ("r1", "r1", "r1")):
            self.refused(WrongRoom, furnished(), "new_sort", "n", True, WIDE, WIDE, [(room, 1, 9) for room in rooms])
        for rooms in (("r1",), ("r2", "r1"), ("r3", "r1", "r2")):
            self.done(furnished(), "new_sort", "n", True, WIDE, WIDE, [(room, 1, 9) for room in rooms])

    def test_the_route_is_kept_as_a_copy(self):
        cellar = furnished()
        route = [("r2", 1, 9), ("r3", 2, 8)]
        cellar.new_sort("n", False, (1, 2), (3, 4), route)
        route[0] = ("r1", 5, 5)
        route.pop()
        cellar.new_wheel("w", "milk", "n", "s2", 10)
        self.assertEqual(cellar.task(["w"], 1, [], "brine1", "cloth1").jobs[0].stays, [(1, 9), (2, 8)])
        self.done(cellar, "move", "w", "s3")


if __name__ == "__main__":
    unittest.main()

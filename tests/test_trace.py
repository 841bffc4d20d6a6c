"""Points 23 and 24: touches and recall."""

import copy
import random
import time
import unittest

from books import (all_ways, drawn_cellar, plain_recall, plain_touches, things_of, two_rooms, way_fault, wedges_of)
from curdcellar.cellar import Cellar
from curdcellar.trace import recall, touches


def night(*rows):
    return (4, "night", tuple((wheel, shelf[0], shelf, 3) for wheel, shelf in rows))


def ring(*things):
    return {(a, b) for a in things for b in things if a != b}


class Touches(unittest.TestCase):
    def told(self, entry, pairs):
        with self.subTest(entry=entry):
            before = copy.deepcopy(entry)
            answer = touches(entry)
            self.assertIs(type(answer), list)
            self.assertEqual(sorted(answer), sorted(pairs))
            self.assertEqual({type(pair) for pair in answer} | {tuple}, {tuple})
            self.assertEqual(entry, before)

    def test_batch(self):
        self.told((0, "batch", "m", (("f", 5),)), [("f", "m")])
        self.told((0, "batch", "m", (("f", 5), ("e", 5), ("d", 1))), [("f", "m"), ("e", "m"), ("d", "m")])

    def test_one_farm_twice(self):
        self.told((0, "batch", "m", (("f", 5), ("f", 5))), [("f", "m")])
        self.told((0, "batch", "m", (("f", 5), ("e", 2), ("f", 7))), [("f", "m"), ("e", "m")])

    def test_wheel(self):
        self.told((3, "wheel", "w", "m", "gouda", "s", 900), [("m", "w")])

    def test_wash(self):
        self.told((3, "wash", "w", "b", "c"),
                  [("w", "b"), ("w", "c"), ("b", "w"), ("b", "c"), ("c", "w"), ("c", "b")])

    def test_night(self):
        self.told(night(), [])
        self.told(night(("w", "rs")), [("w", "rs"), ("rs", "w")])
        self.told(night(("v", "rs"), ("w", "rs")), ring("v", "w", "rs"))
        self.told(night(("u", "rs"), ("v", "rs"), ("w", "rs")), ring("u", "v", "w", "rs"))

    def test_night_of_several_shelves(self):
        self.told(night(("v", "rs"), ("w", "rt")), ring("v", "rs") | ring("w", "rt"))
        self.told(night(("u", "rs"), ("v", "rt"), ("w", "rs")), ring("u", "w", "rs") | ring("v", "rt"))
        self.told(night(("u", "rs"), ("v", "qs"), ("w", "qt"), ("x", "qs")),
                  ring("u", "rs") | ring("v", "x", "qs") | ring("w", "qt"))
        self.told(night(("u", "rs"), ("v", "qs"), ("w", "rs"), ("x", "qs"), ("y", "rs"), ("z", "qs")),
                  ring("u", "w", "y", "rs") | ring("v", "x", "z", "qs"))

    def test_cut(self):
        self.told((3, "cut", "w", (5,), 0), [("w", "w/1")])
        self.told((3, "cut", "w", (1, 2, 3, 4, 5, 6, 7, 8), 0), [("w", "w/" + str(n)) for n in range(1, 9)])
        self.told((3, "cut", "w", (4, 4), 9), [("w", "w/1"), ("w", "w/2")])

    def test_entries_without_touches(self):
        for entry in ((0, "turn", "w"), (0, "move", "w", "s"), (0, "boil", "s"), (0, "taste", "w", 4),
                      (0, "sell", "w/1")):
            self.told(entry, [])

    def test_list_is_the_callers_own(self):
        for entry in ((0, "turn", "w"), (3, "wash", "w", "b", "c"), (0, "batch", "m", (("f", 5),))):
            first = touches(entry)
            right = list(first)
            first.append(("x", "y"))
            self.assertEqual(sorted(touches(entry)), sorted(right))

    def test_drawn_books(self):
        for seed in range(20):
            for entry in drawn_cellar(random.Random(seed), 80, night=9, cut=1).book():
                self.told(entry, plain_touches(entry))


class RecallChecks(unittest.TestCase):
    def answer(self, book, name, day):
        """The wedges told, after a look at all that stands in the answer."""
        before = copy.deepcopy(book)
        answer = recall(book, name, day)
        self.assertEqual(book, before)
        self.assertIs(type(answer), list)
        for pair in answer:
            self.assertIs(type(pair), tuple)
            self.assertEqual(len(pair), 2)
            self.assertIsNone(way_fault(book, name, day, pair[0], pair[1]), (name, day, pair))
        return [wedge for wedge, way in answer]


def small_cellar():
    """f1 to m1 to w1, w2; f2 to m2 to w3. All lie on different shelves but for w1 and w3."""
    cellar = two_rooms()
    cellar.new_batch("m1", [("f1", 5000), ("f1", 5000)])
    cellar.new_batch("m2", [("f2", 5000)])
    cellar.new_wheel("w1", "m1", "gouda", "s1", 1000)
    cellar.new_wheel("w2", "m1", "gouda", "s2", 1000)
    cellar.new_wheel("w3", "m2", "gouda", "s1", 1000)
    return cellar


class Recall(RecallChecks):
    def test_empty_book(self):
        self.assertEqual(recall([], "f1", 0), [])

    def test_each_kind_of_thing(self):
        cellar = small_cellar()
        cellar.wash("w2", "b1", "c1")
        cellar.wash("w3", "b1", "c2")
        for wheel in ("w1", "w2", "w3"):
            cellar.cut(wheel, [100, 100])
        book = cellar.book()
        for name, wheels in (("f1", "w1 w2 w3"), ("m1", "w1 w2 w3"), ("w1", "w1"), ("w2", "w2 w3"), ("w3", "w3"),
                             ("b1", "w2 w3"), ("c1", "w2 w3"), ("c2", "w3"), ("s1", ""), ("b2", ""), ("f2", "w3"),
                             ("f3", ""), ("nobody", ""), ("r1", ""), ("gouda", ""), ("w1/1", ""), ("", "")):
            with self.subTest(name=name):
                right = [wheel + number for wheel in wheels.split() for number in ("/1", "/2")]
                self.assertEqual(self.answer(book, name, 0), right)

    def test_told_way(self):
        cellar = small_cellar()
        cellar.cut("w3", [100, 100])
        place = len(cellar.book()) - 1
        self.assertEqual(recall(cellar.book(), "f2", 0),
                         [("w3/1", [(1, "f2", "m2"), (4, "m2", "w3"), (place, "w3", "w3/1")]),
                          ("w3/2", [(1, "f2", "m2"), (4, "m2", "w3"), (place, "w3", "w3/2")])])
        self.assertEqual(recall(cellar.book(), "w3", 0),
                         [("w3/1", [(place, "w3", "w3/1")]), ("w3/2", [(place, "w3", "w3/2")])])

    def test_shelf_by_night(self):
        cellar = small_cellar()
        cellar.night()
        cellar.cut("w1", [100])
        cellar.cut("w2", [100])
        cellar.cut("w3", [100])
        book = cellar.book()
        for name in ("f2", "m2", "w3", "s1", "w1"):
            self.assertEqual(self.answer(book, name, 0), ["w1/1", "w3/1"])
        self.assertEqual(self.answer(book, "s2", 0), ["w2/1"])
        self.assertEqual(self.answer(book, "s1", 1), [])
        self.assertEqual(self.answer(book, "w3", 1), ["w3/1"])

    def test_wheels_that_lay_on_a_shelf_one_after_the_other(self):
        cellar = small_cellar()
        cellar.move("w3", "s2")
        cellar.night()
        cellar.move("w3", "s1")
        cellar.move("w2", "s1")
        cellar.move("w1", "s2")
        cellar.night()
        for wheel in ("w1", "w2", "w3"):
            cellar.cut(wheel, [100])
        book = cellar.book()
        self.assertEqual(self.answer(book, "w3", 0), ["w1/1", "w2/1", "w3/1"])
        self.assertEqual(self.answer(book, "w1", 0), ["w1/1", "w2/1", "w3/1"])
        self.assertEqual(self.answer(book, "w1", 1), ["w1/1"])
        self.assertEqual(self.answer(book, "s2", 1), ["w1/1"])
        cellar = small_cellar()
        cellar.move("w3", "s2")
        cellar.move("w3", "s1")
        cellar.cut("w2", [100])
        self.assertEqual(self.answer(cellar.book(), "w3", 0), [])

    def test_days(self):
        cellar = small_cellar()
        cellar.night()
        cellar.wash("w1", "b1", "c1")
        cellar.night()
        cellar.wash("w2", "b1", "c1")
        cellar.night()
        cellar.cut("w1", [100])
        cellar.cut("w2", [100])
        cellar.cut("w3", [100])
        book = cellar.book()
        for name, day, wedges in (
            ("f1", 0, "w1/1 w2/1 w3/1"), ("f1", 1, ""), ("b1", 0, "w1/1 w2/1 w3/1"), ("b1", 1, "w1/1 w2/1 w3/1"),
            ("b1", 2, "w2/1"), ("b1", 3, ""), ("w1", 0, "w1/1 w2/1 w3/1"), ("w1", 2, "w1/1 w3/1"), ("w1", 3, "w1/1"),
            ("w1", 4, ""), ("w1", 9999999, ""), ("w2", 2, "w2/1"), ("s1", 2, "w1/1 w3/1"), ("s1", 3, ""),
        ):
            with self.subTest(name=name, day=day):
                self.assertEqual(self.answer(book, name, day), wedges.split())

    def test_boiled_ahead_of_the_first_step(self):
        for boiled, wedges in (("b1", []), ("b2", ["w2/1"]), ("c1", ["w2/1"]), ("s2", ["w2/1"])):
            cellar = small_cellar()
            cellar.night()
            cellar.boil(boiled)
            cellar.wash("w2", "b1", "c1")
            cellar.cut("w2", [100])
            with self.subTest(boiled=boiled):
                self.assertEqual(self.answer(cellar.book(), "b1", 0), wedges)
                self.assertEqual(self.answer(cellar.book(), "b1", 1), wedges)

    def test_boiled_ahead_of_the_day(self):
        cellar = small_cellar()
        cellar.boil("b1")
        cellar.night()
        cellar.wash("w2", "b1", "c1")
        cellar.cut("w2", [100])
        self.assertEqual(self.answer(cellar.book(), "b1", 0), [])
        self.assertEqual(self.answer(cellar.book(), "b1", 1), ["w2/1"])

    def test_boiled_between_two_steps(self):
        for boiled, wedges in ((["b1"], ["w1/1", "w2/1"]), (["c1"], ["w1/1", "w2/1"]), (["b1", "c1"], ["w1/1"]),
                               (["b2", "c2", "s1", "s2"], ["w1/1", "w2/1"])):
            cellar = small_cellar()
            cellar.wash("w1", "b1", "c1")
            for thing in boiled:
                cellar.boil(thing)
            cellar.wash("w2", "b1", "c1")
            cellar.cut("w1", [100])
            cellar.cut("w2", [100])
            with self.subTest(boiled=boiled):
                self.assertEqual(self.answer(cellar.book(), "w1", 0), wedges)

    def test_boiled_behind_the_step(self):
        cellar = small_cellar()
        cellar.wash("w1", "b1", "c1")
        cellar.boil("b1")
        cellar.boil("c1")
        cellar.cut("w1", [100])
        self.assertEqual(self.answer(cellar.book(), "b1", 0), ["w1/1"])

    def test_bad_again_behind_a_boiling(self):
        cellar = small_cellar()
        cellar.wash("w1", "b1", "c1")
        cellar.boil("b1")
        cellar.wash("w1", "b1", "c2")
        cellar.boil("c1")
        cellar.wash("w2", "b1", "c1")
        cellar.cut("w2", [100])
        book = cellar.book()
        self.assertEqual(self.answer(book, "b1", 0), ["w2/1"])
        self.assertEqual(recall(book, "b1", 0)[0][1],
                         [(5, "b1", "w1"), (7, "w1", "b1"), (9, "b1", "w2"), (10, "w2", "w2/1")])

    def test_boiled_shelf(self):
        for boiled, wedges in (("s1", ["w1/1"]), ("s2", ["w1/1", "w2/1"])):
            cellar = small_cellar()
            cellar.move("w3", "s2")
            cellar.night()
            cellar.move("w1", "t1")
            cellar.boil(boiled)
            cellar.move("w2", "s1")
            cellar.night()
            cellar.cut("w1", [100])
            cellar.cut("w2", [100])
            with self.subTest(boiled=boiled):
                self.assertEqual(self.answer(cellar.book(), "w1", 0), wedges)

    def test_order_is_that_of_cutting(self):
        cellar = small_cellar()
        cellar.night()
        cellar.cut("w3", [1] * 8)
        cellar.night()
        cellar.cut("w2", [1])
        cellar.cut("w1", [1, 2])
        wedges = ["w3/" + str(number) for number in range(1, 9)] + ["w2/1", "w1/1", "w1/2"]
        self.assertEqual(self.answer(cellar.book(), "f1", 0), wedges)
        cellar.sell("w3/4")
        self.assertEqual(self.answer(cellar.book(), "f1", 0), wedges)

    def test_long_chain(self):
        cellar = two_rooms()
        cellar.new_batch("m", [("f1", 100000)])
        for number in range(60):
            cellar.new_wheel("w" + str(number), "m", "gouda", "s" + str(number % 2 + 1), 1000)
        for number in range(59):
            cellar.boil("b1")
            cellar.boil("c1")
            cellar.wash("w" + str(number), "b1", "c1")
            cellar.boil(("b1", "c1")[number % 2])
            cellar.wash("w" + str(number + 1), "b1", "c1")
        cellar.cut("w59", [100])
        self.assertEqual(self.answer(cellar.book(), "w0", 0), ["w59/1"])
        self.assertEqual(len(recall(cellar.book(), "w0", 0)[0][1]), 2 * 59 + 1)
        self.assertEqual(self.answer(cellar.book(), "c2", 0), [])

    def test_chain_through_brine_cloth_and_shelf(self):
        cellar = small_cellar()
        cellar.wash("w2", "b1", "c1")
        cellar.wash("w3", "b1", "c2")
        cellar.boil("b1")
        cellar.boil("c2")
        cellar.night()
        cellar.cut("w3", [10])
        cellar.wash("w1", "b2", "c2")
        cellar.new_wheel("w4", "m2", "gouda", "s2", 1000)
        cellar.wash("w4", "b1", "c2")
        cellar.cut("w4", [10])
        self.assertEqual(self.answer(cellar.book(), "c1", 0), ["w3/1", "w4/1"])

    def test_told_lists_are_the_callers_own(self):
        cellar = small_cellar()
        cellar.night()
        cellar.cut("w1", [1, 2])
        cellar.cut("w3", [1, 2])
        book = cellar.book()
        right = copy.deepcopy(recall(book, "f1", 0))
        answer = recall(book, "f1", 0)
        for place, pair in enumerate(answer):
            pair[1].append("x")
            self.assertEqual(answer[place + 1:], right[place + 1:])
        answer.clear()
        self.assertEqual(recall(book, "f1", 0), right)


class AgainstPlainSearches(RecallChecks):
    def names(self, chance, book):
        for kind, names in things_of(book).items():
            if names:
                yield chance.choice(names)
        yield "nobody"

    def test_all_ways_of_small_books(self):
        found = 0
        for seed in range(150):
            chance = random.Random(seed)
            book = drawn_cellar(chance, 16, batch=3, cut=5, turn=0, taste=0, sell=0).book()
            for name in self.names(chance, book):
                for day in sorted({0, book[-1][0] // 2}) if book else [0]:
                    right = {way[-1][2] for way in all_ways(book, name, day)}
                    wedges = [wedge for wedge in wedges_of(book) if wedge in right]
                    with self.subTest(seed=seed, name=name, day=day):
                        self.assertEqual(self.answer(book, name, day), wedges)
                        found += len(wedges)
        self.assertGreater(found, 300)

    def test_larger_books(self):
        some = 0
        for seed in range(60):
            chance = random.Random(seed)
            book = drawn_cellar(chance, 120, wash=(2, 12)[seed % 2], boil=(9, 2, 25)[seed % 3]).book()
            for name in self.names(chance, book):
                for day in (0, 3, chance.randint(0, book[-1][0]), book[-1][0], book[-1][0] + 1):
                    wedges = plain_recall(book, name, day)
                    with self.subTest(seed=seed, name=name, day=day):
                        self.assertEqual(self.answer(book, name, day), wedges)
                        some += 0 < len(wedges) < len(wedges_of(book))
        self.assertGreater(some, 300)


class GoodTime(RecallChecks):
    def test_full_shelf(self):
        cellar = Cellar()
        cellar.new_room("r", 99, 1)
        cellar.new_shelf("s", "r")
        cellar.new_sort("gouda", False, (1, 60), (1, 60), [("r", 1, 60)])
        cellar.new_farm("f")
        cellar.new_farm("g")
        cellar.new_batch("m", [("f", 1000000)])
        cellar.new_batch("n", [("g", 1000000)])
        for number in range(196):
            cellar.new_wheel("w" + str(number), "mn"[number == 195], "gouda", "s", 1000)
        for number in range(33):
            cellar.night(30)
        cellar.night(9)
        for number in range(196):
            cellar.cut("w" + str(number), [10] * 8)
        book = cellar.book()
        start = time.monotonic()
        for name, day, many in (("f", 0, 196), ("g", 0, 196), ("s", 998, 196), ("s", 999, 0), ("w7", 999, 1),
                                ("x", 0, 0)):
            self.assertEqual(len(recall(book, name, day)), many * 8)
        self.assertLess(time.monotonic() - start, 20)

    def test_many_washes(self):
        cellar = two_rooms()
        cellar.new_batch("m", [("f1", 100000)])
        for number in range(60):
            cellar.new_wheel("w" + str(number), "m", "gouda", "s" + str(number % 2 + 1), 1000)
        for number in range(90):
            cellar.wash("w" + str(number * 7 % 60), "b" + str(number % 2 + 1), "c" + str(number // 2 % 2 + 1))
            cellar.boil(("b1", "c1", "b2", "c2", "s1", "s2")[number % 6])
            cellar.night(11)
        for number in range(60):
            cellar.cut("w" + str(number), [10])
        book = cellar.book()
        start = time.monotonic()
        self.assertEqual(len(recall(book, "w7", 0)), 60)
        self.assertLess(time.monotonic() - start, 20)
        self.assertIsNone(way_fault(book, "w7", 0, *recall(book, "w7", 0)[-1]))


if __name__ == "__main__":
    unittest.main()

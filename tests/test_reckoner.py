"""Points 27 to 29: wheel_rows, lyings and totals."""

import copy
import random
import time
import unittest

from books import drawn_cellar, two_rooms
from curdcellar.cellar import Cellar
from curdcellar.errors import Gone
from curdcellar.reckoner import HEADS, lyings, totals, wheel_rows


def cellar_with(*wheels):
    """Wheels of 1000 grams, on the first shelf of the room r1, in which 10 grams of each 1000 go in a night."""
    cellar = two_rooms()
    cellar.new_batch("m", [("f1", 100000)])
    for wheel in wheels:
        cellar.new_wheel(wheel, "m", "gouda", "s1", 1000)
    return cellar


class ReckonerChecks(unittest.TestCase):
    def rows(self, cellar):
        book = cellar.book()
        before = copy.deepcopy(book)
        answer = wheel_rows(book)
        self.assertEqual(book, before)
        self.assertIs(type(answer), list)
        for row in answer:
            self.assertIs(type(row), tuple)
            self.assertEqual(row[1], sum(row[3:]))
        return answer

    def lain(self, cellar, wheel):
        book = cellar.book()
        before = copy.deepcopy(book)
        answer = lyings(book, wheel)
        self.assertEqual(book, before)
        self.assertIs(type(answer), list)
        self.assertEqual({type(pair) for pair in answer} | {tuple}, {tuple})
        return answer

    def heads(self, cellar):
        book = cellar.book()
        before = copy.deepcopy(book)
        answer = totals(book)
        self.assertEqual(book, before)
        self.assertIs(type(answer), tuple)
        self.assertEqual({type(number) for number in answer}, {int})
        found = dict(zip(HEADS, answer, strict=True))
        self.assertEqual(found["milk"], found["parted"] + found["unparted"])
        self.assertEqual(found["wedged"], found["sold"] + found["kept"])
        self.assertEqual(found["parted"], sum(found[head] for head in ("lost", "tasted", "wedged", "crumbs", "left")))
        return answer


class WheelRows(ReckonerChecks):
    def test_no_wheel(self):
        self.assertEqual(self.rows(Cellar()), [])
        cellar = cellar_with()
        cellar.night(3)
        cellar.boil("b1")
        self.assertEqual(self.rows(cellar), [])

    def test_just_made(self):
        self.assertEqual(self.rows(cellar_with("w")), [("w", 1000, 0, 0, 0, 0, 0, 1000)])

    def test_uncut_and_never_tasted(self):
        cellar = cellar_with("w")
        cellar.turn("w")
        cellar.wash("w", "b1", "c1")
        cellar.night(2)
        self.assertEqual(self.rows(cellar), [("w", 1000, 2, 10 + 9, 0, 0, 0, 981)])
        self.assertEqual(cellar.weight("w"), 981)

    def test_tasted(self):
        cellar = cellar_with("w")
        cellar.taste("w", 30)
        cellar.night()
        cellar.taste("w", 1)
        self.assertEqual(self.rows(cellar), [("w", 1000, 1, 9, 31, 0, 0, 960)])
        cellar.taste("w", 960)
        cellar.night()
        self.assertEqual(self.rows(cellar), [("w", 1000, 2, 9, 991, 0, 0, 0)])

    def test_cut(self):
        cellar = cellar_with("v", "w")
        cellar.night()
        cellar.taste("w", 5)
        cellar.cut("w", [100, 200, 300])
        cellar.night(2)
        cellar.sell("w/2")
        self.assertEqual(self.rows(cellar), [
            ("v", 1000, 3, 10 + 9 + 9, 0, 0, 0, 972), ("w", 1000, 1, 10, 5, 600, 385, 0)])

    def test_crumbs_of_nought(self):
        cellar = cellar_with("w")
        cellar.night()
        cellar.cut("w", [990])
        self.assertEqual(self.rows(cellar), [("w", 1000, 1, 10, 0, 990, 0, 0)])

    def test_made_behind_some_nights(self):
        cellar = cellar_with("w")
        cellar.night(4)
        cellar.new_wheel("a", "m", "blue", "s2", 2000)
        cellar.night()
        self.assertEqual([row[:4] for row in self.rows(cellar)],
                         [("w", 1000, 5, 10 + 9 + 9 + 9 + 9), ("a", 2000, 1, 20)])

    def test_cut_on_the_day_of_its_making(self):
        cellar = cellar_with("w")
        cellar.cut("w", [1])
        cellar.night(3)
        self.assertEqual(self.rows(cellar), [("w", 1000, 0, 0, 0, 1, 999, 0)])

    def test_order_is_that_of_making(self):
        cellar = cellar_with("c", "a", "d", "b")
        cellar.cut("a", [4])
        cellar.night()
        self.assertEqual([row[0] for row in self.rows(cellar)], ["c", "a", "d", "b"])

    def test_told_list_is_the_callers_own(self):
        book = cellar_with("w").book()
        wheel_rows(book).clear()
        self.assertEqual(len(wheel_rows(book)), 1)
        wheel_rows([]).append("x")
        self.assertEqual(wheel_rows([]), [])


class Lyings(ReckonerChecks):
    def test_no_wheel(self):
        self.assertEqual(lyings([], "w"), [])
        cellar = cellar_with("w")
        cellar.night()
        for name in ("x", "", "r1", "s1", "m", "gouda", "w/1", "f1"):
            self.assertEqual(self.lain(cellar, name), [])

    def test_no_night(self):
        self.assertEqual(self.lain(cellar_with("w"), "w"), [])

    def test_one_room(self):
        cellar = cellar_with("w", "v")
        cellar.night()
        self.assertEqual(self.lain(cellar, "w"), [("r1", 1)])
        cellar.night(6)
        self.assertEqual(self.lain(cellar, "v"), [("r1", 7)])

    def test_moved_within_its_room(self):
        cellar = cellar_with("w")
        cellar.night(2)
        cellar.move("w", "s2")
        cellar.night(3)
        cellar.move("w", "s1")
        cellar.night()
        self.assertEqual(self.lain(cellar, "w"), [("r1", 6)])

    def test_moved_to_the_next_room(self):
        cellar = cellar_with("w", "v")
        cellar.night(2)
        cellar.move("w", "t2")
        self.assertEqual(self.lain(cellar, "w"), [("r1", 2)])
        cellar.night(3)
        cellar.move("w", "t1")
        cellar.night(4)
        self.assertEqual(self.lain(cellar, "w"), [("r1", 2), ("r2", 7)])
        self.assertEqual(self.lain(cellar, "v"), [("r1", 9)])

    def test_moved_on_the_day_of_its_making(self):
        cellar = cellar_with("w")
        cellar.night()
        cellar.new_wheel("v", "m", "gouda", "s1", 1000)
        cellar.move("v", "t1")
        cellar.night(2)
        self.assertEqual(self.lain(cellar, "v"), [("r2", 2)])

    def test_through_a_room_without_a_night(self):
        cellar = cellar_with()
        cellar.new_room("r3", 90, 9)
        cellar.new_shelf("u1", "r3")
        cellar.new_sort("old", False, (1, 9), (1, 9), [("r1", 1, 9), ("r2", 1, 9), ("r3", 1, 9)])
        cellar.new_wheel("w", "m", "old", "s1", 1000)
        cellar.night(2)
        cellar.move("w", "t1")
        cellar.move("w", "u1")
        cellar.night(3)
        self.assertEqual(self.lain(cellar, "w"), [("r1", 2), ("r3", 3)])

    def test_three_rooms_and_cut(self):
        cellar = cellar_with()
        cellar.new_room("r0", 100, 0)
        cellar.new_shelf("u1", "r0")
        cellar.new_sort("old", True, (1, 9), (1, 9), [("r2", 1, 9), ("r0", 1, 9), ("r1", 1, 9)])
        cellar.new_wheel("w", "m", "old", "t1", 1000)
        for shelf, nights in (("t2", 1), ("u1", 2), ("s1", 3)):
            cellar.move("w", shelf)
            cellar.night(nights)
        cellar.cut("w", [5])
        cellar.night(4)
        self.assertEqual(self.lain(cellar, "w"), [("r2", 1), ("r0", 2), ("r1", 3)])

    def test_told_list_is_the_callers_own(self):
        cellar = cellar_with("w")
        cellar.night()
        book = cellar.book()
        lyings(book, "w").clear()
        lyings(book, "x").append(("r1", 1))
        self.assertEqual((lyings(book, "w"), lyings(book, "x")), ([("r1", 1)], []))


class Totals(ReckonerChecks):
    def test_heads(self):
        self.assertEqual(HEADS, ("milk", "parted", "unparted", "lost", "tasted", "wedged", "crumbs", "left", "sold",
                                 "kept"))

    def test_empty_book(self):
        self.assertEqual(self.heads(Cellar()), (0,) * 10)

    def test_batches(self):
        cellar = two_rooms()
        cellar.new_batch("m1", [("f1", 400), ("f1", 400), ("f2", 200)])
        self.assertEqual(self.heads(cellar), (1000, 0, 1000, 0, 0, 0, 0, 0, 0, 0))
        cellar.new_batch("m2", [("f3", 600)])
        cellar.new_wheel("w1", "m2", "gouda", "s1", 500)
        self.assertEqual(self.heads(cellar), (1600, 500, 1100, 0, 0, 0, 0, 500, 0, 0))
        cellar.new_wheel("w2", "m2", "gouda", "s1", 100)
        self.assertEqual(self.heads(cellar), (1600, 600, 1000, 0, 0, 0, 0, 600, 0, 0))
        cellar.new_wheel("w3", "m1", "blue", "s2", 1000)
        self.assertEqual(self.heads(cellar), (1600, 1600, 0, 0, 0, 0, 0, 1600, 0, 0))

    def test_all_heads(self):
        cellar = cellar_with("u", "v", "w")
        cellar.night()
        cellar.taste("u", 7)
        cellar.taste("v", 3)
        cellar.cut("v", [100, 20, 3])
        cellar.cut("w", [990])
        self.assertEqual(self.heads(cellar), (100000, 3000, 97000, 30, 10, 123 + 990, 864, 983, 0, 1113))
        cellar.sell("v/2")
        self.assertEqual(self.heads(cellar)[8:], (20, 1093))
        cellar.sell("w/1")
        cellar.sell("v/1")
        self.assertEqual(self.heads(cellar)[8:], (1110, 3))
        cellar.sell("v/3")
        self.assertEqual(self.heads(cellar)[8:], (1113, 0))


class DrawnBooks(ReckonerChecks):
    def left(self, cellar, wheel):
        try:
            return cellar.weight(wheel)
        except Gone:
            return 0

    def test_drawn_books(self):
        for seed in range(60):
            cellar = drawn_cellar(random.Random(seed), 200, batch=4, sell=6)
            book = cellar.book()
            made = [entry for entry in book if entry[1] == "wheel"]
            with self.subTest(seed=seed):
                rows = self.rows(cellar)
                self.assertEqual([row[0] for row in rows], [entry[2] for entry in made])
                for row, entry in zip(rows, made):
                    nights = [one for night in book if night[1] == "night" for one in night[2] if one[0] == row[0]]
                    tasted = [one[3] for one in book if one[1:3] == ("taste", row[0])]
                    cuts = [one for one in book if one[1:3] == ("cut", row[0])]
                    self.assertEqual(row[1:], (
                        entry[6], len(nights), sum(one[3] for one in nights), sum(tasted),
                        sum(sum(one[3]) for one in cuts), sum(one[4] for one in cuts), self.left(cellar, row[0])))
                    lain = self.lain(cellar, row[0])
                    self.assertEqual([room for room, many in lain for night in range(many)], [one[1] for one in nights])
                    self.assertTrue(all(many > 0 for room, many in lain))
                    self.assertTrue(all(a[0] != b[0] for a, b in zip(lain, lain[1:])))
                self.compare_totals(book, rows, self.heads(cellar))

    def compare_totals(self, book, rows, told):
        milk = sum(grams for entry in book if entry[1] == "batch" for farm, grams in entry[3])
        wedges = {f"{entry[2]}/{place}": grams for entry in book if entry[1] == "cut"
                  for place, grams in enumerate(entry[3], start=1)}
        sold = sum(wedges[entry[2]] for entry in book if entry[1] == "sell")
        parted = sum(row[1] for row in rows)
        over_wheels = [sum(row[place] for row in rows) for place in range(3, 8)]
        self.assertEqual(told, (milk, parted, milk - parted, *over_wheels, sold, sum(wedges.values()) - sold))

    def test_good_time(self):
        cellar = two_rooms()
        cellar.new_batch("m", [("f1", 1000000)])
        for number in range(300):
            cellar.new_wheel("w" + str(number), "m", "gouda", "s1", 1000)
        for number in range(33):
            cellar.night(30)
        book = cellar.book()
        start = time.monotonic()
        self.assertEqual(len(wheel_rows(book)), 300)
        self.assertEqual(totals(book)[1], 300000)
        self.assertEqual(lyings(book, "w299"), [("r1", 990)])
        self.assertLess(time.monotonic() - start, 20)


if __name__ == "__main__":
    unittest.main()

"""Points 17, 18 and 20: batches and wheels, turning, washing, moving, boiling, tasting, cutting, selling."""

import unittest

from cellars import WIDE, CellarChecks, furnished, with_wheels
from curdcellar.errors import BadNumber, Gone, Mouldy, TooMuch, Unknown, WrongRoom

GRAMS = ((-1, False), (0, False), (1, True), (2, True), (999999, True), (1000000, True), (1000001, False),
         (9999999, False))


class Batches(CellarChecks, unittest.TestCase):
    def test_grams(self):
        for grams, right in GRAMS:
            for parts in ([("hill", grams)], [("hill", 5), ("dale", grams)], [("hill", 5)] * 5 + [("dale", grams)]):
                if right:
                    self.done(furnished(), "new_batch", "n", parts)
                else:
                    self.refused(BadNumber, furnished(), "new_batch", "n", parts)

    def test_one_to_six_parts(self):
        for many in range(1, 7):
            cellar = furnished()
            self.done(cellar, "new_batch", "n", [("hill", 1000000)] * many)
            for number in range(many):
                self.done(cellar, "new_wheel", "w" + str(number), "n", "gouda", "s1", 1000000)
            self.refused(TooMuch, cellar, "new_wheel", "more", "n", "gouda", "s1", 1)

    def test_a_farm_twice(self):
        cellar = furnished()
        parts = [("hill", 3), ("dale", 4), ("hill", 3)]
        self.done(cellar, "new_batch", "n", parts)
        self.assertEqual(cellar.book()[-1], (0, "batch", "n", (("hill", 3), ("dale", 4), ("hill", 3))))
        self.refused(TooMuch, cellar, "new_wheel", "w", "n", "gouda", "s1", 11)
        self.done(cellar, "new_wheel", "w", "n", "gouda", "s1", 10)

    def test_the_parts_are_kept_as_a_copy(self):
        cellar = furnished()
        parts = [("hill", 3)]
        cellar.new_batch("n", parts)
        parts[0] = ("dale", 9)
        parts.append(("dale", 9))
        self.assertEqual(cellar.book()[-1], (0, "batch", "n", (("hill", 3),)))
        self.refused(TooMuch, cellar, "new_wheel", "w", "n", "gouda", "s1", 4)


class Wheels(CellarChecks, unittest.TestCase):
    def test_grams(self):
        for grams, right in GRAMS:
            if right:
                self.done(furnished(), "new_wheel", "n", "milk", "gouda", "s1", grams)
            else:
                self.refused(BadNumber, furnished(), "new_wheel", "n", "milk", "gouda", "s1", grams)

    def test_the_shelf_stands_in_the_first_room(self):
        cellar = furnished()
        cellar.new_sort("late", False, WIDE, WIDE, [("r2", 1, 9), ("r1", 1, 9)])
        for number, sort, shelf, right in (
            ("1", "gouda", "s1", True), ("2", "gouda", "t1", True), ("3", "gouda", "s2", False),
            ("4", "gouda", "s3", False), ("5", "late", "s2", True), ("6", "late", "t2", True),
            ("7", "late", "s1", False), ("8", "late", "s3", False),
        ):
            if right:
                self.done(cellar, "new_wheel", "w" + number, "milk", sort, shelf, 5)
            else:
                self.refused(WrongRoom, cellar, "new_wheel", "w" + number, "milk", sort, shelf, 5)

    def test_what_the_batch_has_left(self):
        for first in (1, 40, 99, 100):
            cellar = furnished()
            cellar.new_batch("n", [("hill", 60), ("dale", 40)])
            cellar.new_wheel("one", "n", "gouda", "s1", first)
            self.refused(TooMuch, cellar, "new_wheel", "two", "n", "gouda", "s1", 101 - first)
            if first < 100:
                self.done(cellar, "new_wheel", "two", "n", "gouda", "s1", 100 - first)
            self.refused(TooMuch, cellar, "new_wheel", "three", "n", "gouda", "s1", 1)

    def test_a_refused_wheel_leaves_name_and_grams(self):
        cellar = furnished()
        cellar.new_batch("n", [("hill", 100)])
        self.refused(TooMuch, cellar, "new_wheel", "w", "n", "gouda", "s1", 101)
        self.refused(BadNumber, cellar, "new_wheel", "w", "n", "gouda", "s1", 0)
        self.refused(WrongRoom, cellar, "new_wheel", "w", "n", "gouda", "s2", 100)
        self.refused(Unknown, cellar, "turn", "w")
        self.done(cellar, "new_wheel", "w", "n", "gouda", "s1", 100)
        self.assertEqual(cellar.weight("w"), 100)

    def test_weights(self):
        cellar = furnished()
        cellar.new_wheel("w", "milk", "gouda", "s1", 4321)
        cellar.new_wheel("v", "milk", "blue", "s1", 1234)
        self.assertEqual((cellar.weight("w"), cellar.weight("v")), (4321, 1234))


class Moves(CellarChecks, unittest.TestCase):
    def test_within_the_room_and_on(self):
        cellar = with_wheels()
        for shelf in ("t1", "t1", "s1", "s2", "t2", "t3", "s3", "s3"):
            self.done(cellar, "move", "g1", shelf)

    def test_from_each_room(self):
        for way, free in (([], "12"), (["s2"], "23"), (["t2", "s3"], "3")):
            for number in "123":
                for letter in "st":
                    cellar = with_wheels()
                    for shelf in way:
                        cellar.move("g1", shelf)
                    if number in free:
                        self.done(cellar, "move", "g1", letter + number)
                    else:
                        self.refused(WrongRoom, cellar, "move", "g1", letter + number)

    def test_a_room_off_the_route(self):
        cellar = with_wheels()
        cellar.new_room("r4", 1, 1)
        cellar.new_shelf("s4", "r4")
        self.refused(WrongRoom, cellar, "move", "g1", "s4")
        self.refused(WrongRoom, cellar, "move", "b1", "s3")
        cellar.move("b1", "s2")
        self.refused(WrongRoom, cellar, "move", "b1", "s3")
        self.refused(WrongRoom, cellar, "move", "b1", "s1")

    def test_each_wheel_has_its_own_place(self):
        cellar = with_wheels()
        cellar.move("g1", "s2")
        self.refused(WrongRoom, cellar, "move", "g2", "s3")
        self.done(cellar, "move", "g1", "s3")
        self.done(cellar, "move", "g2", "t1")


class Washings(CellarChecks, unittest.TestCase):
    def washed_by_blue(self, brine, cloth):
        cellar = with_wheels()
        cellar.wash("b1", brine, cloth)
        return cellar

    def test_mouldy_by_the_brine_and_by_the_cloth(self):
        for brine in ("brine1", "brine2"):
            for cloth in ("cloth1", "cloth2"):
                cellar = self.washed_by_blue("brine1", "cloth1")
                if (brine, cloth) == ("brine2", "cloth2"):
                    self.done(cellar, "wash", "g1", brine, cloth)
                else:
                    self.refused(Mouldy, cellar, "wash", "g1", brine, cloth)
                self.done(cellar, "wash", "b2", brine, cloth)

    def test_mould_goes_on(self):
        cellar = self.washed_by_blue("brine1", "cloth1")
        cellar.wash("b2", "brine2", "cloth1")
        self.refused(Mouldy, cellar, "wash", "g1", "brine2", "cloth2")
        cellar.night(30)
        self.refused(Mouldy, cellar, "wash", "g1", "brine1", "cloth2")

    def test_clean_wheels_leave_all_clean(self):
        cellar = with_wheels()
        for wheel in ("g1", "g2", "g1"):
            self.done(cellar, "wash", wheel, "brine1", "cloth1")
        self.done(cellar, "wash", "b1", "brine1", "cloth1")

    def test_boils_between(self):
        for boiled in ([], ["brine1"], ["cloth1"], ["s1"], ["brine2", "cloth2"], ["brine1", "cloth1"],
                       ["cloth1", "s1", "brine1"]):
            cellar = self.washed_by_blue("brine1", "cloth1")
            for thing in boiled:
                self.done(cellar, "boil", thing)
            clean = {"brine1", "cloth1"} <= set(boiled)
            for brine, cloth, right in (("brine1", "cloth1", clean), ("brine1", "cloth2", "brine1" in boiled),
                                        ("brine2", "cloth1", "cloth1" in boiled), ("brine2", "cloth2", True)):
                if right:
                    self.done(cellar, "wash", "g1", brine, cloth)
                else:
                    self.refused(Mouldy, cellar, "wash", "g1", brine, cloth)

    def test_a_boil_before_or_a_mouldy_washing_after_it(self):
        cellar = with_wheels()
        cellar.boil("brine1")
        cellar.boil("cloth1")
        cellar.wash("b1", "brine1", "cloth1")
        self.refused(Mouldy, cellar, "wash", "g1", "brine1", "cloth1")
        cellar.boil("brine1")
        cellar.wash("b1", "brine1", "cloth2")
        self.refused(Mouldy, cellar, "wash", "g1", "brine1", "cloth1")

    def test_a_refused_washing_does_not_mould(self):
        cellar = with_wheels()
        self.refused(Unknown, cellar, "wash", "b1", "brine1", "no")
        self.done(cellar, "wash", "g1", "brine1", "cloth1")

    def test_what_can_be_boiled(self):
        cellar = with_wheels()
        cellar.cut("g2", [5])
        for thing in ("brine1", "brine2", "cloth1", "cloth2", "s1", "t3", "brine1"):
            self.done(cellar, "boil", thing)
        for thing in ("r1", "gouda", "hill", "milk", "g1", "g2", "g2/1", "no", "", "No Name"):
            self.refused(Unknown, cellar, "boil", thing)


class Tastings(CellarChecks, unittest.TestCase):
    def test_grams(self):
        for grams, right in GRAMS:
            cellar = furnished()
            cellar.new_wheel("w", "milk", "gouda", "s1", 1000000)
            if right:
                self.done(cellar, "taste", "w", grams)
                self.assertEqual(cellar.weight("w"), 1000000 - grams)
            else:
                self.refused(BadNumber, cellar, "taste", "w", grams)

    def test_just_the_weight_and_one_more(self):
        cellar = with_wheels()
        self.refused(TooMuch, cellar, "taste", "g1", 10001)
        self.done(cellar, "taste", "g1", 4000)
        self.refused(TooMuch, cellar, "taste", "g1", 6001)
        self.done(cellar, "taste", "g1", 6000)
        self.assertEqual(cellar.weight("g1"), 0)
        self.refused(TooMuch, cellar, "taste", "g1", 1)
        self.assertEqual(cellar.weight("g2"), 10000)
        self.done(cellar, "turn", "g1")


class Cuttings(CellarChecks, unittest.TestCase):
    def test_grams(self):
        for grams, right in GRAMS:
            for parts in ([grams], [1, grams], [1] * 7 + [grams]):
                cellar = furnished()
                cellar.new_wheel("w", "milk", "gouda", "s1", 1000000)
                if not right:
                    self.refused(BadNumber, cellar, "cut", "w", parts)
                elif sum(parts) > 1000000:
                    self.refused(TooMuch, cellar, "cut", "w", parts)
                else:
                    self.done(cellar, "cut", "w", parts)

    def test_just_the_weight_and_one_more(self):
        for parts in ([10000], [1, 9999], [1250] * 8):
            cellar = with_wheels()
            self.refused(TooMuch, cellar, "cut", "g1", parts[:-1] + [parts[-1] + 1])
            self.done(cellar, "cut", "g1", parts)
            self.assertEqual(cellar.book()[-1], (0, "cut", "g1", tuple(parts), 0))

    def test_crumbs(self):
        for parts in ([1], [9999], [3000, 3000, 3999], [1] * 8):
            cellar = with_wheels()
            cellar.cut("g1", parts)
            self.assertEqual(cellar.book()[-1], (0, "cut", "g1", tuple(parts), 10000 - sum(parts)))

    def test_a_wheel_of_no_weight(self):
        cellar = with_wheels()
        cellar.taste("g1", 10000)
        self.refused(TooMuch, cellar, "cut", "g1", [1])

    def test_one_to_eight_wedges_and_their_names(self):
        for many in range(1, 9):
            cellar = with_wheels()
            self.refused(Unknown, cellar, "sell", "g1/1")
            cellar.cut("g1", [100] * many)
            for name in ("g1/0", "g1/" + str(many + 1), "g1/01", "g1", "g1/", "g2/1", "/1", "1"):
                self.refused(Unknown, cellar, "sell", name)
            for number in range(1, many + 1):
                self.done(cellar, "sell", "g1/" + str(number))

    def test_every_deed_on_a_cut_wheel(self):
        cellar = with_wheels()
        cellar.cut("g1", [5])
        for deed, told in (("turn", ()), ("wash", ("brine1", "cloth1")), ("move", ("s1",)), ("move", ("s3",)),
                           ("taste", (1,)), ("taste", (10000,)), ("cut", ([5],)), ("weight", ())):
            self.refused(Gone, cellar, deed, "g1", *told)
        self.refused(Gone, cellar, "task", ["g1"], 1, [], "brine1", "cloth1")
        self.done(cellar, "turn", "g2")

    def test_the_longest_name(self):
        cellar = furnished()
        cellar.new_wheel("x" * 12, "milk", "gouda", "s1", 10)
        cellar.cut("x" * 12, [5, 5])
        self.done(cellar, "sell", "x" * 12 + "/2")

    def test_sold_once(self):
        cellar = with_wheels()
        cellar.cut("g1", [5, 6])
        cellar.cut("g2", [5, 6])
        self.done(cellar, "sell", "g1/2")
        self.refused(Gone, cellar, "sell", "g1/2")
        for wedge in ("g1/1", "g2/2", "g2/1"):
            self.done(cellar, "sell", wedge)
            self.refused(Gone, cellar, "sell", wedge)
        self.refused(Unknown, cellar, "sell", "g1/3")

    def test_the_parts_are_kept_as_a_copy(self):
        cellar = with_wheels()
        parts = [5, 6]
        cellar.cut("g1", parts)
        parts.append(7)
        parts[0] = 9
        self.assertEqual(cellar.book()[-1], (0, "cut", "g1", (5, 6), 9989))
        self.refused(Unknown, cellar, "sell", "g1/3")


if __name__ == "__main__":
    unittest.main()

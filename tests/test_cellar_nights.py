"""Point 19: what a night takes off the wheels."""

import unittest

from cellars import CellarChecks, furnished, with_wheels
from curdcellar.cellar import Cellar
from curdcellar.errors import BadNumber


def one_wheel(damp, warmth, grams):
    cellar = Cellar()
    cellar.new_room("room", damp, warmth)
    cellar.new_shelf("shelf", "room")
    cellar.new_sort("sort", False, (1, 2), (1, 2), [("room", 1, 2)])
    cellar.new_farm("farm")
    cellar.new_batch("batch", [("farm", grams)])
    cellar.new_wheel("wheel", "batch", "sort", "shelf", grams)
    return cellar


def plain_weights(damp, warmth, grams, nights):
    weights = [grams]
    for _ in range(nights):
        weights.append(weights[-1] - weights[-1] * (100 - damp) * warmth // 100000)
    return weights


class Nights(CellarChecks, unittest.TestCase):
    def test_losses(self):
        for damp, warmth, grams, loss in (
            (0, 40, 1000000, 40000), (100, 40, 1000000, 0), (0, 0, 1000000, 0), (50, 20, 1000000, 10000),
            (99, 1, 1000000, 10), (99, 1, 100000, 1), (99, 1, 99999, 0), (0, 40, 25, 1), (0, 40, 24, 0),
            (0, 40, 49, 1), (0, 40, 50, 2), (37, 13, 777777, 6369), (0, 40, 1, 0), (1, 39, 12345, 476),
        ):
            with self.subTest(damp=damp, warmth=warmth, grams=grams):
                cellar = one_wheel(damp, warmth, grams)
                self.done(cellar, "night")
                self.assertEqual(cellar.weight("wheel"), grams - loss)
                self.assertEqual(cellar.book()[-1], (0, "night", (("wheel", "room", "shelf", loss),)))

    def test_each_night_goes_by_the_weight_before_it(self):
        for damp, warmth, grams in ((0, 40, 1000000), (90, 10, 54321), (0, 40, 60), (45, 33, 999999)):
            weights = plain_weights(damp, warmth, grams, 30)
            cellar = one_wheel(damp, warmth, grams)
            for weight in weights[1:]:
                cellar.night()
                self.assertEqual(cellar.weight("wheel"), weight)
            together = one_wheel(damp, warmth, grams)
            together.night(30)
            self.assertEqual(together.weight("wheel"), weights[-1])
            self.assertEqual(together.book(), cellar.book())

    def test_a_weight_that_fell_to_nought(self):
        cellar = one_wheel(0, 40, 1000)
        cellar.taste("wheel", 1000)
        cellar.night(2)
        self.assertEqual(cellar.weight("wheel"), 0)
        self.assertEqual(cellar.book()[-1], (1, "night", (("wheel", "room", "shelf", 0),)))

    def test_tasting_counts(self):
        cellar = one_wheel(0, 40, 1000)
        cellar.taste("wheel", 500)
        cellar.night()
        self.assertEqual(cellar.weight("wheel"), 480)

    def test_the_room_in_which_it_lies(self):
        cellar = furnished()
        cellar.new_room("dry", 0, 40)
        cellar.new_shelf("dryshelf", "dry")
        cellar.new_sort("both", False, (1, 2), (1, 2), [("r1", 1, 2), ("dry", 1, 2)])
        cellar.new_wheel("w", "milk", "both", "t1", 100000)
        cellar.night()
        cellar.move("w", "dryshelf")
        cellar.night()
        self.assertEqual(cellar.book()[-3], (0, "night", (("w", "r1", "t1", 100),)))
        self.assertEqual(cellar.book()[-1], (1, "night", (("w", "dry", "dryshelf", 3996),)))

    def test_a_cut_wheel_loses_nothing(self):
        cellar = with_wheels()
        cellar.cut("g2", [10000])
        cellar.night()
        row = ("r1", "s1", 10)
        self.assertEqual(cellar.book()[-1], (0, "night", tuple((name,) + row for name in ("g1", "b1", "b2"))))

    def test_rows_in_the_order_of_making(self):
        cellar = furnished()
        names = ["z", "a", "m", "0"]
        for name in names:
            cellar.new_wheel(name, "milk", "gouda", "s1", 5)
        cellar.move("z", "s2")
        cellar.turn("m")
        cellar.night()
        self.assertEqual([row[0] for row in cellar.book()[-1][2]], names)

    def test_no_wheels(self):
        cellar = Cellar()
        cellar.night()
        self.assertEqual((cellar.today, cellar.book()), (1, [(0, "night", ())]))

    def test_times(self):
        for times in (-1, 0, 31, 32, 9999999):
            self.refused(BadNumber, with_wheels(), "night", times)
        for times in (1, 2, 29, 30):
            cellar = with_wheels()
            before = len(cellar.book())
            self.done(cellar, "night", times)
            self.assertEqual(cellar.today, times)
            self.assertEqual([entry[:2] for entry in cellar.book()[before:]], [(day, "night") for day in range(times)])

    def test_times_by_name_and_left_out(self):
        cellar = Cellar()
        cellar.night()
        cellar.night(times=3)
        cellar.night(2)
        self.assertEqual(cellar.today, 6)
        self.assertEqual([entry[0] for entry in cellar.book()], [0, 1, 2, 3, 4, 5])

    def test_many_nights(self):
        cellar = with_wheels()
        for _ in range(33):
            cellar.night(30)
        cellar.night(9)
        self.assertEqual(cellar.today, 999)
        self.assertEqual(cellar.weight("g1"), plain_weights(90, 10, 10000, 999)[-1])


if __name__ == "__main__":
    unittest.main()

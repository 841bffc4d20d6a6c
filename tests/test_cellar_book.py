"""Point 21: the book, entry by entry."""

import unittest

from cellars import CellarChecks, furnished, with_wheels
from curdcellar.errors import BadNumber, Gone, Mouldy, TooMuch, Unknown, WrongRoom


def walked(value):
    """Every value within, to see that no list is among them."""
    yield value
    if isinstance(value, (list, tuple)):
        for part in value:
            yield from walked(part)


class Book(CellarChecks, unittest.TestCase):
    def test_a_whole_book(self):
        cellar = furnished()
        cellar.new_wheel("g1", "milk", "gouda", "s1", 10000)
        cellar.new_wheel("b1", "milk", "blue", "t1", 20000)
        cellar.turn("g1")
        cellar.night()
        cellar.wash("b1", "brine1", "cloth1")
        cellar.boil("cloth1")
        cellar.boil("s1")
        cellar.move("g1", "s2")
        cellar.move("g1", "t2")
        cellar.night(2)
        cellar.taste("g1", 70)
        cellar.cut("g1", [3000, 4000])
        cellar.sell("g1/2")
        cellar.night()
        cellar.new_batch("cream", [("dale", 7), ("hill", 8), ("dale", 7)])
        cellar.sell("g1/1")
        self.assertEqual(cellar.book(), [
            (0, "batch", "milk", (("hill", 500000), ("dale", 500000))),
            (0, "wheel", "g1", "milk", "gouda", "s1", 10000),
            (0, "wheel", "b1", "milk", "blue", "t1", 20000),
            (0, "turn", "g1"),
            (0, "night", (("g1", "r1", "s1", 10), ("b1", "r1", "t1", 20))),
            (1, "wash", "b1", "brine1", "cloth1"),
            (1, "boil", "cloth1"),
            (1, "boil", "s1"),
            (1, "move", "g1", "s2"),
            (1, "move", "g1", "t2"),
            (1, "night", (("g1", "r2", "t2", 9), ("b1", "r1", "t1", 19))),
            (2, "night", (("g1", "r2", "t2", 9), ("b1", "r1", "t1", 19))),
            (3, "taste", "g1", 70),
            (3, "cut", "g1", (3000, 4000), 2902),
            (3, "sell", "g1/2"),
            (3, "night", (("b1", "r1", "t1", 19),)),
            (4, "batch", "cream", (("dale", 7), ("hill", 8), ("dale", 7))),
            (4, "sell", "g1/1"),
        ])
        self.assertIs(type(cellar.book()), list)
        for entry in cellar.book():
            self.assertFalse(any(isinstance(value, list) for value in walked(entry)))

    def test_other_deeds_write_nothing(self):
        cellar = with_wheels()
        book = cellar.book()
        cellar.new_room("a", 1, 1)
        cellar.new_shelf("b", "a")
        cellar.new_sort("c", True, (1, 1), (1, 1), [("a", 1, 2)])
        cellar.new_farm("d")
        cellar.new_brine("e")
        cellar.new_cloth("f")
        cellar.weight("g1")
        cellar.task(["g1"], 3, [], "e", "f")
        cellar.book()
        self.assertEqual(cellar.book(), book)

    def test_refused_deeds_write_nothing(self):
        cellar = with_wheels()
        cellar.cut("g2", [1])
        cellar.wash("b1", "brine1", "cloth1")
        book = cellar.book()
        for error, deed, told in (
            (BadNumber, "new_batch", ("n", [("hill", 0)])), (WrongRoom, "new_wheel", ("n", "milk", "gouda", "s2", 1)),
            (Gone, "turn", ("g2",)), (Mouldy, "wash", ("g1", "brine1", "cloth2")), (WrongRoom, "move", ("g1", "s3")),
            (Unknown, "boil", ("r1",)), (BadNumber, "night", (31,)), (TooMuch, "taste", ("g1", 10001)),
            (TooMuch, "cut", ("g1", [10000, 1])), (Unknown, "sell", ("g2/2",)),
        ):
            self.refused(error, cellar, deed, *told)
            self.assertEqual(cellar.book(), book)

    def test_the_told_list_is_the_callers_own(self):
        cellar = with_wheels()
        first, second = cellar.book(), cellar.book()
        first.append((9, "turn", "g1"))
        first[0] = None
        first.pop(1)
        self.assertEqual(cellar.book(), second)
        cellar.turn("g1")
        self.assertEqual(len(second), 5)
        self.assertEqual(cellar.book(), second + [(0, "turn", "g1")])


if __name__ == "__main__":
    unittest.main()

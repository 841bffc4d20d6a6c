"""Points 25 and 26: parting and both."""

import copy
import itertools
import random
import time
import unittest

from books import drawn_cellar, plain_recall, things_of, two_rooms, wedges_of
from curdcellar.tastings import both, parting


def parts(rows, places, pair):
    return any(rows[place][pair[0]] != rows[place][pair[1]] for place in places)


def all_pairs(many):
    return list(itertools.combinations(range(many), 2))


class PartingChecks(unittest.TestCase):
    def check(self, rows, many):
        before = copy.deepcopy(rows)
        answer = parting(rows, many)
        self.assertEqual(rows, before)
        self.assertIs(type(answer), tuple)
        places, unparted = answer
        self.assertIs(type(places), list)
        self.assertIs(type(unparted), list)
        self.assertEqual({type(pair) for pair in unparted} | {tuple}, {tuple})
        every = range(len(rows))
        due = [pair for pair in all_pairs(many) if parts(rows, every, pair)]
        self.assertEqual(unparted, [pair for pair in all_pairs(many) if pair not in due])
        self.assertEqual(places, sorted(set(places)))
        self.assertTrue(all(place in every for place in places))
        self.assertTrue(all(parts(rows, places, pair) for pair in due))
        if places:
            for fewer in itertools.combinations(every, len(places) - 1):
                self.assertFalse(all(parts(rows, fewer, pair) for pair in due), fewer)
        return answer


class Parting(PartingChecks):
    def test_no_sources(self):
        self.assertEqual(self.check([], 0), ([], []))
        self.assertEqual(self.check([[]], 0), ([], []))
        self.assertEqual(self.check([[]] * 60, 0), ([], []))

    def test_one_source(self):
        self.assertEqual(self.check([], 1), ([], []))
        self.assertEqual(self.check([[True], [False], [True]], 1), ([], []))

    def test_no_tastings(self):
        self.assertEqual(self.check([], 2), ([], [(0, 1)]))
        self.assertEqual(self.check([], 3), ([], [(0, 1), (0, 2), (1, 2)]))
        self.assertEqual(self.check([], 6), ([], all_pairs(6)))

    def test_two_sources(self):
        self.assertEqual(self.check([[True, True]], 2), ([], [(0, 1)]))
        self.assertEqual(self.check([[False, False]], 2), ([], [(0, 1)]))
        self.assertEqual(self.check([[True, False]], 2), ([0], []))
        self.assertEqual(self.check([[False, False], [True, True], [False, True]], 2), ([2], []))

    def test_rows_alike(self):
        places, unparted = self.check([[True, False, False]] * 5, 3)
        self.assertEqual((len(places), unparted), (1, [(1, 2)]))
        places, unparted = self.check([[True, False, False], [False, True, True]] * 4, 3)
        self.assertEqual((len(places), unparted), (1, [(1, 2)]))

    def test_the_widest_tasting_first_is_not_always_the_fewest(self):
        rows = [[place in group for place in range(6)]
                for group in ((0, 1, 2), (0, 3), (1, 4), (0, 1, 3), (2, 5), (0, 4))]
        self.assertEqual(len(self.check(rows, 6)[0]), 3)

    def test_one_tasting_for_each_source_but_one(self):
        rows = [[place == source for place in range(6)] for source in range(6)]
        self.assertEqual(len(self.check(rows, 6)[0]), 5)
        self.assertEqual(len(self.check(rows[1:], 6)[0]), 5)
        self.assertEqual(self.check(rows[2:], 6)[1], [(0, 1)])

    def test_all_tastings_of_six_sources(self):
        rows = [[bool(number >> place & 1) for place in range(6)] for number in range(60)]
        self.assertEqual(len(self.check(rows, 6)[0]), 3)
        self.assertEqual(self.check(list(reversed(rows)), 6)[1], [])

    def test_drawn_rows(self):
        for seed in range(400):
            chance = random.Random(seed)
            many, tastings, odds = chance.randint(2, 6), chance.randint(0, 14), chance.choice((0.1, 0.2, 0.5, 0.9))
            rows = [[chance.random() < odds for source in range(many)] for tasting in range(tastings)]
            with self.subTest(seed=seed):
                self.check(rows, many)

    def test_drawn_rows_with_sources_alike(self):
        for seed in range(100):
            chance = random.Random(seed)
            like = [chance.randint(0, 3) for source in range(6)]
            rows = []
            for tasting in range(10):
                says = [chance.random() < 0.4 for source in range(4)]
                rows.append([says[place] for place in like])
            with self.subTest(seed=seed):
                unparted = self.check(rows, 6)[1]
                self.assertLessEqual({pair for pair in all_pairs(6) if like[pair[0]] == like[pair[1]]}, set(unparted))

    def test_sixty_tastings(self):
        for seed in range(12):
            chance = random.Random(seed)
            odds = (0.05, 0.1, 0.3)[seed % 3]
            rows = [[chance.random() < odds for source in range(6)] for tasting in range(60)]
            with self.subTest(seed=seed):
                self.check(rows, 6)

    def test_good_time(self):
        start = time.monotonic()
        for seed in range(40):
            chance = random.Random(seed)
            parting([[chance.random() < 0.3 for source in range(6)] for tasting in range(60)], 6)
        self.assertLess(time.monotonic() - start, 20)

    def test_told_lists_are_the_callers_own(self):
        rows = [[True, False, False], [False, True, True]]
        right = copy.deepcopy(parting(rows, 3))
        places, unparted = parting(rows, 3)
        places.append(7)
        unparted.append(7)
        self.assertEqual(parting(rows, 3), right)
        parting([], 0)[0].append(7)
        self.assertEqual(parting([], 0), ([], []))


def milk_cellar():
    """Of f1 and f2 there is w1, of f2 and f3 w2, of f1 w3, of f3 w4, each cut to two wedges."""
    cellar = two_rooms()
    cellar.new_batch("m1", [("f1", 1000), ("f2", 1000)])
    cellar.new_batch("m2", [("f2", 1000), ("f3", 1000)])
    cellar.new_batch("m3", [("f1", 1000)])
    cellar.new_batch("m4", [("f3", 1000)])
    for number in "1234":
        cellar.new_wheel("w" + number, "m" + number, "gouda", "s1", 500)
    for number in "3142":
        cellar.cut("w" + number, [100, 100])
    return cellar


class BothChecks(PartingChecks):
    def check_both(self, book, first, second, suspects):
        before, given = copy.deepcopy(book), list(suspects)
        answer = both(book, first, second, suspects)
        self.assertEqual((book, suspects), (before, given))
        self.assertIs(type(answer), tuple)
        self.assertEqual([type(part) for part in answer], [list, list, list])
        places, wedges, unparted = answer
        reached = [plain_recall(book, thing, day) for thing, day in suspects]
        self.assertEqual(places, [place for place, there in enumerate(reached) if first in there and second in there])
        sold = [entry[2] for entry in book if entry[1] == "sell"]
        unsold = [wedge for wedge in wedges_of(book) if wedge not in sold]
        self.assertEqual(wedges, [wedge for wedge in unsold if wedge in wedges])
        pairs = list(itertools.combinations(places, 2))

        def part(told, pair):
            return any((wedge in reached[pair[0]]) != (wedge in reached[pair[1]]) for wedge in told)

        due = [pair for pair in pairs if part(unsold, pair)]
        self.assertEqual(unparted, [pair for pair in pairs if pair not in due])
        self.assertTrue(all(part(wedges, pair) for pair in due))
        kinds = {tuple(wedge in reached[place] for place in places): wedge for wedge in unsold}
        if wedges:
            for fewer in itertools.combinations(kinds.values(), len(wedges) - 1):
                self.assertFalse(all(part(fewer, pair) for pair in due), fewer)
        return answer


class Both(BothChecks):
    def test_suspects_with_ways_to_both(self):
        book = milk_cellar().book()
        farms = [("f1", 0), ("f2", 0), ("f3", 0)]
        self.assertEqual(self.check_both(book, "w1/1", "w1/2", farms)[0], [0, 1])
        self.assertEqual(self.check_both(book, "w1/1", "w2/1", farms), ([1], [], []))
        self.assertEqual(self.check_both(book, "w2/1", "w1/1", farms), ([1], [], []))
        self.assertEqual(self.check_both(book, "w3/1", "w4/1", farms), ([], [], []))
        self.assertEqual(self.check_both(book, "w4/1", "w2/2", farms)[0], [2])

    def test_the_same_wedge_twice(self):
        book = milk_cellar().book()
        farms = [("f1", 0), ("f2", 0), ("f3", 0)]
        places, wedges, unparted = self.check_both(book, "w1/1", "w1/1", farms)
        self.assertEqual((places, len(wedges), unparted), ([0, 1], 1, []))
        self.assertIn(wedges[0], ("w3/1", "w3/2", "w2/1", "w2/2"))

    def test_a_name_that_is_no_wedge(self):
        book = milk_cellar().book()
        farms = [("f1", 0), ("f2", 0), ("f3", 0)]
        for name in ("nobody", "w1", "w1/3", "f1", ""):
            self.assertEqual(self.check_both(book, name, "w1/1", farms), ([], [], []))
            self.assertEqual(self.check_both(book, "w1/1", name, farms), ([], [], []))
            self.assertEqual(self.check_both(book, name, name, farms), ([], [], []))

    def test_no_suspects_and_an_empty_book(self):
        self.assertEqual(self.check_both(milk_cellar().book(), "w1/1", "w1/1", []), ([], [], []))
        self.assertEqual(self.check_both([], "w1/1", "w1/1", [("f1", 0)]), ([], [], []))

    def test_one_suspect(self):
        book = milk_cellar().book()
        self.assertEqual(self.check_both(book, "w1/1", "w1/1", [("f1", 0)]), ([0], [], []))
        self.assertEqual(self.check_both(book, "w1/1", "w1/1", [("f3", 0)]), ([], [], []))

    def test_a_suspect_twice(self):
        book = milk_cellar().book()
        places, wedges, unparted = self.check_both(book, "w1/1", "w1/1", [("f1", 0), ("f3", 0), ("f2", 0), ("f1", 0)])
        self.assertEqual((places, len(wedges), unparted), ([0, 2, 3], 1, [(0, 3)]))
        self.assertEqual(self.check_both(book, "w1/1", "w1/2", [("f1", 0)] * 6),
                         ([0, 1, 2, 3, 4, 5], [], all_pairs(6)))

    def test_suspects_with_different_days(self):
        cellar = two_rooms()
        cellar.new_batch("m", [("f1", 9000)])
        for number in "123":
            cellar.new_wheel("w" + number, "m", "gouda", "s1", 900)
            cellar.night()
            cellar.wash("w" + number, "b1", "c1")
        for number in "123":
            cellar.move("w" + number, "t" + str(int(number) % 2 + 1))
            cellar.cut("w" + number, [100])
        suspects = [("b1", 3), ("b1", 2), ("b1", 1), ("b1", 0), ("b1", 4)]
        places, wedges, unparted = self.check_both(cellar.book(), "w3/1", "w3/1", suspects)
        self.assertEqual(places, [0, 1, 2, 3])
        self.assertIn((2, 3), unparted)

    def test_sold_wedges_are_not_told(self):
        cellar = milk_cellar()
        farms = [("f1", 0), ("f2", 0)]
        for sold, left in (("w3/1", ("w3/2", "w2/1", "w2/2")), ("w3/2", ("w2/1", "w2/2")), ("w2/1", ("w2/2",))):
            cellar.sell(sold)
            places, wedges, unparted = self.check_both(cellar.book(), "w1/1", "w1/1", farms)
            self.assertEqual((places, len(wedges), unparted), ([0, 1], 1, []))
            self.assertIn(wedges[0], left)
        cellar.sell("w2/2")
        self.assertEqual(self.check_both(cellar.book(), "w1/1", "w1/1", farms), ([0, 1], [], [(0, 1)]))

    def test_the_wedges_that_came_back_may_be_sold(self):
        cellar = milk_cellar()
        cellar.sell("w1/1")
        cellar.sell("w1/2")
        self.assertEqual(self.check_both(cellar.book(), "w1/1", "w1/2", [("f1", 0), ("f2", 0)])[0], [0, 1])

    def test_order_is_that_of_cutting(self):
        cellar = two_rooms()
        for number in range(4):
            cellar.new_batch("m" + str(number), [("f1", 1000)])
            cellar.new_wheel("w" + str(number), "m" + str(number), "gouda", "s1", 500)
        cellar.new_wheel("x", "m0", "gouda", "s2", 500)
        for number in range(4):
            cellar.wash("w" + str(number), "b" + str(number % 2 + 1), "c" + str(number // 2 + 1))
            cellar.wash("x", "b" + str(number % 2 + 1), "c" + str(number // 2 + 1))
        for wheel in ("w2", "x", "w0", "w3", "w1"):
            cellar.cut(wheel, [10, 10])
        suspects = [("w0", 0), ("w1", 0), ("w2", 0), ("w3", 0), ("f1", 0), ("m2", 0)]
        self.assertGreater(len(self.check_both(cellar.book(), "x/1", "x/2", suspects)[1]), 1)

    def test_told_lists_are_the_callers_own(self):
        book = milk_cellar().book()
        suspects = [("f1", 0), ("f2", 0), ("f1", 0)]
        right = copy.deepcopy(both(book, "w1/1", "w1/1", suspects))
        for part in both(book, "w1/1", "w1/1", suspects):
            part.clear()
        self.assertEqual(both(book, "w1/1", "w1/1", suspects), right)

    def test_drawn_books(self):
        seen = {"places": 0, "wedges": 0, "many wedges": 0, "unparted": 0}
        for seed in range(160):
            chance = random.Random(seed)
            book = drawn_cellar(chance, 90, cut=5, wash=5, night=1, boil=9, sell=(2, 9)[seed % 2]).book()
            names = [name for kind in things_of(book).values() for name in kind] + ["nobody"]
            wedges = wedges_of(book) + ["nobody"]
            for number in range(4):
                first = chance.choice(wedges)
                likely = [name for name in names if first in plain_recall(book, name, 0)] * 9
                suspects = [(chance.choice(likely + names), chance.choice((0, 0, 0, 1, 2))) for suspect in range(6)]
                second = first if number % 2 else chance.choice(wedges)
                with self.subTest(seed=seed, first=first, second=second, suspects=suspects):
                    told = self.check_both(book, first, second, suspects)
                    seen["places"] += len(told[0]) > 1
                    seen["wedges"] += bool(told[1])
                    seen["many wedges"] += len(told[1]) > 1
                    seen["unparted"] += bool(told[2])
        self.assertGreater(min(seen.values()), 25, seen)


if __name__ == "__main__":
    unittest.main()

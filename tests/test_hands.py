"""Points 7 and 8: the strength of the hands, and the sharing of loads among them."""

import copy
import itertools
import random
import unittest

from curdcellar.hands import share, strength


def plain_strength(hands, within):
    total = 0
    for row, most in hands:
        able = 0
        for day in within:
            able += row[day]
        total += able if able < most else most
    return total


def least_size(loads, hands):
    """How many days the smallest set has whose loads are more than the strength; None if there is none."""
    for size in range(len(loads) + 1):
        for within in itertools.combinations(range(len(loads)), size):
            if sum(loads[day] for day in within) > plain_strength(hands, within):
                return size
    return None


def can_be_shared(loads, hands):
    """All sharings gone through, hand by hand."""
    if not hands:
        return not any(loads)
    row, most = hands[0]
    choices = [range(min(load, able) + 1) for load, able in zip(loads, row)]
    for numbers in itertools.product(*choices):
        if sum(numbers) <= most:
            if can_be_shared([load - number for load, number in zip(loads, numbers)], hands[1:]):
                return True
    return False


def drawn_hands(chance, days, many, top):
    hands = []
    for _ in range(many):
        row = [chance.randint(0, top) for _ in range(days)]
        hands.append((row, chance.randint(0, sum(row) + 2)))
    return hands


def drawn_sharing(chance, hands, days):
    """The loads of some sharing."""
    loads = [0] * days
    for row, most in hands:
        left = most
        for day in chance.sample(range(days), days):
            number = chance.randint(0, min(row[day], left))
            left -= number
            loads[day] += number
    return loads


class Strength(unittest.TestCase):
    def test_no_hands(self):
        for within in ([], [0], [2, 0, 1]):
            self.assertEqual(strength([], within), 0)

    def test_a_most_about_the_rows_sum(self):
        for within, able in (([0, 2], 7), ([2, 0], 7), ([1], 0), ([3, 1], 9), ([0, 1, 2, 3], 16)):
            for most, answer in ((able - 1, able - 1), (able, able), (able + 1, able)):
                if most >= 0:
                    with self.subTest(within=within, most=most):
                        self.assertEqual(strength([([3, 0, 4, 9], most)], within), answer)

    def test_no_told_days(self):
        self.assertEqual(strength([([3, 4], 5), ([9, 9], 60)], []), 0)

    def test_all_days_in_any_order(self):
        hands = [([1, 2, 3], 5), ([9, 0, 9], 60), ([4, 4, 4], 0)]
        for within in itertools.permutations(range(3)):
            self.assertEqual(strength(hands, list(within)), 5 + 18 + 0)

    def test_the_lesser_is_taken_hand_by_hand(self):
        self.assertEqual(strength([([9, 0], 2), ([1, 1], 9)], [0]), 2 + 1)
        self.assertEqual(strength([([9, 0], 2), ([1, 1], 9)], [0, 1]), 2 + 2)
        self.assertEqual(strength([([9] * 6, 60)] * 5, [0, 1, 2, 3, 4, 5]), 270)

    def test_drawn_hands(self):
        chance = random.Random(7)
        for _ in range(500):
            days = chance.randint(1, 6)
            hands = drawn_hands(chance, days, chance.randint(0, 5), 9)
            within = chance.sample(range(days), chance.randint(0, days))
            self.assertEqual(strength(hands, within), plain_strength(hands, within))

    def test_what_is_handed_in_stays(self):
        hands, within = [([3, 4, 0], 5), ([9, 9, 1], 60)], [2, 0]
        before = copy.deepcopy((hands, within))
        strength(hands, within)
        self.assertEqual((hands, within), before)


class Share(unittest.TestCase):
    def check_table(self, loads, hands, table):
        self.assertIs(type(table), list)
        self.assertEqual(len(table), len(hands))
        for numbers, (row, most) in zip(table, hands):
            self.assertIs(type(numbers), list)
            self.assertEqual(len(numbers), len(loads))
            for number, able in zip(numbers, row):
                self.assertTrue(0 <= number <= able)
            self.assertLessEqual(sum(numbers), most)
        for day, load in enumerate(loads):
            self.assertEqual(sum(numbers[day] for numbers in table), load)

    def check_days(self, loads, hands, days):
        self.assertIs(type(days), list)
        self.assertEqual(days, sorted(set(days)))
        self.assertTrue(set(days) <= set(range(len(loads))))
        self.assertGreater(sum(loads[day] for day in days), plain_strength(hands, days))
        self.assertEqual(len(days), least_size(loads, hands))

    def check(self, word, loads, hands):
        with self.subTest(loads=loads, hands=hands):
            before = copy.deepcopy((loads, hands))
            answer = share(loads, hands)
            self.assertEqual((loads, hands), before)
            self.assertIs(type(answer), tuple)
            self.assertEqual((answer[0], len(answer)), (word, 2))
            (self.check_table if word == "shared" else self.check_days)(loads, hands, answer[1])
            return answer[1]

    def test_no_hands(self):
        self.assertEqual(share([0, 0, 0], []), ("shared", []))
        self.assertEqual(share([0], []), ("shared", []))
        self.assertEqual(share([0, 0, 1], []), ("many", [2]))
        self.check("many", [30, 0, 1], [])

    def test_no_loads(self):
        self.check("shared", [0, 0], [([0, 0], 0), ([9, 9], 60)])

    def test_just_what_can_be_done(self):
        hands = [([2, 1], 2), ([0, 3], 3)]
        self.check("shared", [2, 3], hands)
        self.check("shared", [1, 4], hands)

    def test_one_deed_more_on_a_day(self):
        hands = [([2, 5, 5], 60), ([1, 5, 5], 60)]
        self.check("shared", [3, 10, 10], hands)
        self.assertEqual(self.check("many", [4, 0, 0], hands), [0])
        self.assertEqual(self.check("many", [3, 11, 10], hands), [1])

    def test_one_deed_more_on_two_days_together(self):
        hands = [([3, 3, 0], 4), ([1, 1, 9], 60)]
        self.check("shared", [3, 3, 9], hands)
        self.assertEqual(self.check("many", [3, 4, 0], hands), [0, 1])
        self.assertEqual(self.check("many", [4, 3, 9], hands), [0, 1])

    def test_one_deed_more_in_all(self):
        hands = [([3, 3, 3], 4), ([2, 2, 2], 5)]
        self.check("shared", [3, 3, 3], hands)
        self.assertEqual(self.check("many", [3, 3, 4], hands), [0, 1, 2])

    def test_the_smallest_set_is_told(self):
        hands = [([1, 1, 9, 9], 2), ([1, 1, 9, 9], 2)]
        self.assertEqual(len(self.check("many", [2, 2, 1, 1], hands)), 3)
        self.assertEqual(len(self.check("many", [2, 2, 1, 3], hands)), 2)
        self.assertEqual(self.check("many", [2, 2, 1, 5], hands), [3])

    def test_deeds_are_handed_on_from_hand_to_hand(self):
        hands = [([1, 1, 0, 0], 1), ([0, 1, 1, 0], 1), ([0, 0, 1, 1], 1), ([0, 0, 0, 1], 1)]
        self.check("shared", [1, 1, 1, 1], hands)
        self.check("shared", [1, 1, 1, 1], hands[::-1])
        self.check("shared", [0, 1, 1, 2], hands)
        self.check("many", [2, 1, 1, 0], hands)

    def test_the_largest_bounds(self):
        hands = [([9] * 6, 60)] * 5
        self.check("shared", [30] * 6, hands)
        self.check("many", [30] * 6, [([9] * 6, 35)] * 5)
        self.check("shared", [30] * 6, [([9] * 6, 36)] * 5)

    def test_loads_made_of_a_sharing(self):
        chance = random.Random(8)
        for _ in range(1500):
            days = chance.randint(1, 6)
            hands = drawn_hands(chance, days, chance.randint(0, 5), chance.randint(0, 6))
            self.check("shared", drawn_sharing(chance, hands, days), hands)

    def test_drawn_loads(self):
        chance = random.Random(88)
        words = {"shared": 0, "many": 0}
        for _ in range(1500):
            days = chance.randint(1, 6)
            hands = drawn_hands(chance, days, chance.randint(0, 5), chance.randint(1, 6))
            loads = drawn_sharing(chance, hands, days)
            for _ in range(chance.randint(1, 4)):
                loads[chance.randrange(days)] += 1
            word = "shared" if least_size(loads, hands) is None else "many"
            self.check(word, loads, hands)
            words[word] += 1
        self.assertGreater(min(words.values()), 200)

    def test_small_cases_against_all_sharings(self):
        chance = random.Random(888)
        for _ in range(400):
            days = chance.randint(1, 3)
            hands = drawn_hands(chance, days, chance.randint(0, 3), 3)
            loads = [chance.randint(0, 5) for _ in range(days)]
            self.check("shared" if can_be_shared(loads, hands) else "many", loads, hands)

    def test_what_is_told_is_the_callers_own(self):
        loads, hands = [2, 1], [([2, 2], 3)]
        table = share(loads, hands)[1]
        table[0][0] = 7
        table.append([1, 1])
        self.assertEqual((loads, hands), ([2, 1], [([2, 2], 3)]))
        self.assertEqual(share(loads, hands), ("shared", [[2, 1]]))
        days = share([3, 1], hands)[1]
        days.append(9)
        self.assertEqual(share([3, 1], hands), ("many", [0]))


if __name__ == "__main__":
    unittest.main()

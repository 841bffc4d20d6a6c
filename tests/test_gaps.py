"""Points 5 and 6: rows of gaps, and the least number of told days."""

import itertools
import random
import unittest

from curdcellar.gaps import fewest, kept


def plainly_kept(gaps, since, days, done):
    """Point 5 clause by clause, without a thought of speed."""
    times = [-since] + list(done)
    clauses = [len(done) < len(gaps)]
    for place in range(min(len(done), len(gaps))):
        passed = times[place + 1] - times[place]
        clauses.append(gaps[place][0] <= passed and passed <= gaps[place][1])
    if len(done) < len(gaps):
        clauses.append(days - times[-1] <= gaps[len(done)][1])
    return False not in clauses


def keeping_lists(gaps, since, days):
    """All lists of days of the span that keep the row, gone through one by one."""
    lists = []
    for size in range(len(gaps)):
        for done in itertools.product(range(days), repeat=size):
            if plainly_kept(gaps, since, days, done):
                lists.append(done)
    return lists


def rising_lists(gaps, since, days):
    """The same for long rows: a least of 1 lets by rising lists alone."""
    lists = []
    for size in range(days + 1):
        for done in itertools.combinations(range(days), size):
            if plainly_kept(gaps, since, days, done):
                lists.append(done)
    return lists


def least_count(lists, within):
    return min([len([day for day in done if day in within]) for done in lists], default=None)


def all_rows(most, size):
    pairs = [(least, top) for top in range(1, most + 1) for least in range(1, top + 1)]
    return [list(row) for row in itertools.product(pairs, repeat=size)]


def subsets(days):
    for size in range(days + 1):
        for within in itertools.combinations(range(days), size):
            yield list(within)


def drawn_row(chance):
    row = []
    for _ in range(chance.randint(1, 7)):
        least = chance.randint(1, 4)
        row.append((least, chance.randint(least, 6)))
    return row


class Kept(unittest.TestCase):
    def check(self, answer, gaps, since, days, done):
        with self.subTest(gaps=gaps, since=since, days=days, done=done):
            self.assertIs(kept(gaps, since, days, done), answer)

    def test_the_documents_example(self):
        gaps = [(1, 3), (2, 2)]
        self.check(True, gaps, 1, 4, [2])
        self.check(False, gaps, 1, 4, [])
        self.check(False, gaps, 1, 4, [1])
        self.check(False, gaps, 1, 4, [3])
        self.check(False, gaps, 1, 4, [0, 2])

    def test_fewer_days_than_pairs(self):
        self.check(True, [(1, 9), (1, 9), (1, 9)], 1, 4, [0, 1])
        self.check(False, [(1, 9), (1, 9), (1, 9)], 1, 4, [0, 1, 2])
        self.check(False, [(1, 9), (1, 9), (1, 9)], 1, 4, [0, 1, 2, 3])
        self.check(False, [(1, 9)], 1, 4, [0])
        self.check(True, [(1, 9)] * 7, 1, 6, [0, 1, 2, 3, 4, 5])
        self.check(False, [(1, 9)] * 6, 1, 6, [0, 1, 2, 3, 4, 5])

    def test_first_gap(self):
        gaps = [(3, 4), (1, 60)]
        for day, answer in ((0, False), (1, True), (2, True), (3, False)):
            self.check(answer, gaps, 2, 5, [day])

    def test_middle_gap(self):
        gaps = [(1, 60), (2, 3), (1, 60)]
        for day, answer in ((1, False), (2, True), (3, True), (4, False)):
            self.check(answer, gaps, 1, 6, [0, day])

    def test_gap_between_two_others(self):
        gaps = [(1, 60), (2, 2), (1, 60), (1, 60)]
        for day, answer in ((1, False), (2, True), (3, False)):
            self.check(answer, gaps, 5, 6, [0, day, 5])

    def test_last_gap(self):
        gaps = [(1, 60), (1, 60), (2, 3), (1, 60)]
        for day, answer in ((2, False), (3, True), (4, True), (5, False)):
            self.check(answer, gaps, 1, 6, [0, 1, day])

    def test_the_day_behind_the_span(self):
        self.check(True, [(1, 60), (1, 3)], 1, 4, [1])
        self.check(False, [(1, 60), (1, 3)], 1, 4, [0])
        self.check(True, [(1, 60), (1, 60), (1, 2)], 1, 4, [0, 2])
        self.check(False, [(1, 60), (1, 60), (1, 2)], 1, 4, [0, 1])

    def test_the_day_behind_the_span_knows_no_least(self):
        self.check(True, [(1, 60), (50, 60)], 1, 4, [3])
        self.check(True, [(60, 60)], 0, 1, [])

    def test_the_day_behind_the_span_goes_by_the_first_unused_pair(self):
        self.check(True, [(1, 1), (1, 4), (1, 1)], 1, 4, [0])
        self.check(False, [(1, 4), (1, 3), (1, 4)], 1, 4, [0])

    def test_empty_list(self):
        self.check(True, [(1, 5)], 1, 4, [])
        self.check(False, [(1, 4)], 1, 4, [])
        self.check(True, [(1, 5), (1, 1)], 1, 4, [])
        self.check(False, [(1, 4), (1, 60)], 1, 4, [])

    def test_days_that_fall_or_are_equal(self):
        gaps = [(1, 60)] * 7
        self.check(True, gaps, 1, 6, [2, 4])
        self.check(False, gaps, 1, 6, [4, 2])
        self.check(False, gaps, 1, 6, [2, 2])
        self.check(False, gaps, 1, 6, [0, 1, 2, 2])
        self.check(False, gaps, 1, 6, [0, 3, 2, 4])
        self.check(False, gaps, 1, 6, [5, 4, 3, 2, 1, 0])
        self.check(False, gaps, 1, 6, [0] * 8)

    def test_since_nought(self):
        self.check(False, [(1, 60), (1, 60)], 0, 6, [0])
        self.check(True, [(1, 60), (1, 60)], 0, 6, [1])
        self.check(True, [(1, 6)], 0, 6, [])
        self.check(False, [(1, 5)], 0, 6, [])

    def test_since_long_ago(self):
        self.check(False, [(1, 60), (1, 60)], 9999, 6, [0])
        self.check(False, [(1, 60)], 9999, 1, [])
        self.check(True, [(1, 60), (1, 60)], 60, 6, [0])
        self.check(False, [(1, 60), (1, 60)], 60, 6, [1])
        self.check(False, [(1, 60), (1, 60)], 61, 6, [0])

    def test_span_of_one_day(self):
        self.check(True, [(1, 1), (1, 1)], 1, 1, [0])
        self.check(False, [(1, 1), (1, 1)], 1, 1, [])
        self.check(True, [(1, 2), (1, 1)], 1, 1, [])
        self.check(False, [(2, 2), (1, 1)], 1, 1, [0])

    def test_span_of_six_days(self):
        self.check(True, [(1, 1)] * 7, 1, 6, [0, 1, 2, 3, 4, 5])
        self.check(False, [(1, 1)] * 7, 1, 6, [0, 1, 2, 3, 4])
        self.check(False, [(1, 1)] * 7, 1, 6, [1, 2, 3, 4, 5])
        self.check(True, [(2, 2)] * 7, 1, 6, [1, 3, 5])

    def test_all_small_rows_against_the_clauses(self):
        for size in (1, 2, 3):
            for gaps in all_rows(2, size) + all_rows(3, 2):
                for days in (1, 3):
                    for since in (0, 1, 2):
                        for many in range(4):
                            for done in itertools.product(range(days), repeat=many):
                                done = list(done)
                                self.check(plainly_kept(gaps, since, days, done), gaps, since, days, done)

    def test_what_is_handed_in_stays(self):
        for done in ([2], [], [3, 1], [2, 2, 2]):
            gaps, given = [(1, 3), (2, 2)], list(done)
            kept(gaps, 1, 4, given)
            self.assertEqual(gaps, [(1, 3), (2, 2)])
            self.assertEqual(given, done)


class Fewest(unittest.TestCase):
    def check(self, answer, gaps, since, days, within):
        with self.subTest(gaps=gaps, since=since, days=days, within=within):
            given = fewest(gaps, since, days, within)
            self.assertEqual(given, answer)
            self.assertIn(given.__class__, (int, None.__class__))

    def test_the_documents_row(self):
        gaps = [(1, 3), (2, 2)]
        for within, answer in (([], 0), ([2], 1), ([0, 1, 3], 0), ([3, 2, 1, 0], 1)):
            self.check(answer, gaps, 1, 4, within)

    def test_no_told_days(self):
        self.check(0, [(1, 1)] * 7, 1, 6, [])
        self.check(0, [(1, 60)], 0, 6, [])

    def test_all_days(self):
        self.check(6, [(1, 1)] * 7, 1, 6, [0, 1, 2, 3, 4, 5])
        self.check(2, [(1, 3)] * 7, 1, 6, [0, 1, 2, 3, 4, 5])
        self.check(1, [(1, 3)] * 7, 0, 5, [0, 1, 2, 3, 4])
        self.check(0, [(1, 60)] * 7, 0, 6, [0, 1, 2, 3, 4, 5])

    def test_days_in_any_order(self):
        gaps = [(1, 2), (2, 3), (1, 2), (1, 3), (1, 1), (1, 1), (1, 1)]
        for within in subsets(6):
            answer = least_count(rising_lists(gaps, 1, 6), within)
            for order in (within, within[::-1], within[1:] + within[:1]):
                self.check(answer, gaps, 1, 6, order)

    def test_longer_lists_may_meet_fewer_told_days(self):
        self.check(0, [(1, 2)] * 5, 1, 4, [0])
        self.check(0, [(1, 3), (1, 2), (1, 2)], 1, 4, [2])
        self.assertIs(kept([(1, 3), (1, 2), (1, 2)], 1, 4, [2]), True)

    def test_no_list_keeps_the_row(self):
        self.check(None, [(1, 1)], 1, 1, [])
        self.check(None, [(1, 1)], 1, 1, [0])
        self.check(None, [(1, 60)] * 7, 9999, 6, [0, 1, 2, 3, 4, 5])
        self.check(None, [(1, 60)] * 7, 61, 6, [])
        self.check(None, [(1, 1), (1, 1)], 1, 6, [0, 1])
        self.check(None, [(3, 3), (1, 1), (1, 1)], 0, 6, [5])

    def test_edges_of_since(self):
        self.check(1, [(1, 60)] * 7, 60, 6, [0])
        self.check(0, [(1, 60)] * 7, 59, 1, [0])
        self.check(0, [(1, 60)] * 7, 0, 6, [0])

    def test_all_small_rows_against_a_plain_count(self):
        rows = all_rows(3, 1) + all_rows(3, 2) + all_rows(3, 3) + all_rows(2, 4)
        for gaps in rows:
            for days in (1, 2, 3, 4):
                for since in (0, 1, 2, 3):
                    lists = keeping_lists(gaps, since, days)
                    for within in subsets(days):
                        if fewest(gaps, since, days, within) != least_count(lists, within):
                            self.check(least_count(lists, within), gaps, since, days, within)

    def test_drawn_rows_against_a_plain_count(self):
        chance = random.Random(56)
        for _ in range(3000):
            gaps, since, days = drawn_row(chance), chance.randint(0, 7), chance.randint(1, 6)
            within = [day for day in range(days) if chance.random() < 0.6]
            chance.shuffle(within)
            self.check(least_count(rising_lists(gaps, since, days), within), gaps, since, days, within)

    def test_what_is_handed_in_stays(self):
        for told in ([], [3, 0, 2], [0, 1, 2, 3]):
            gaps, within = [(1, 3), (2, 2), (1, 1)], list(told)
            fewest(gaps, 1, 4, within)
            self.assertEqual(gaps, [(1, 3), (2, 2), (1, 1)])
            self.assertEqual(within, told)


if __name__ == "__main__":
    unittest.main()

"""Points 9 to 12: jobs, tasks, demands, and the faults of a plan."""

import copy
import random
import unittest

from curdcellar.gaps import fewest
from curdcellar.plans import DEEDS, FAULTS, Job, Task, demand, faults

FREE = (1, 60)


def free_job(mouldy=False, turn_gap=FREE, turned=1, wash_gap=FREE, washed=1, stays=None, lain=1):
    """A job of which nothing has to be done, but for what is told."""
    return Job(mouldy, turn_gap, turned, wash_gap, washed, [FREE, FREE, FREE] if stays is None else stays, lain)


def wide_hands(days, many=2):
    return [([9] * days, 60) for _ in range(many)]


def values(job):
    return (job.mouldy, job.turn_gap, job.turned, job.wash_gap, job.washed, job.stays, job.lain)


def task_values(task):
    return (task.days, task.hands, [values(job) for job in task.jobs], task.mouldy)


def drawn_gap(chance, top):
    least = chance.randint(1, top)
    return (least, chance.randint(least, top))


def drawn_job(chance, top):
    stays = [drawn_gap(chance, top) for _ in range(chance.randint(1, 3))]
    return Job(chance.random() < 0.5, drawn_gap(chance, top), chance.randint(0, top), drawn_gap(chance, top),
               chance.randint(0, top), stays, chance.randint(0, top))


class Fields(unittest.TestCase):
    def test_words(self):
        self.assertEqual(DEEDS, ("turn", "wash", "move", "boil"))
        self.assertEqual(FAULTS, ("form", "turn", "wash", "stay", "hand", "mould"))

    def test_job(self):
        job = Job(True, (1, 2), 3, (4, 5), 6, [(7, 8), (9, 10)], 11)
        self.assertEqual(values(job), (True, (1, 2), 3, (4, 5), 6, [(7, 8), (9, 10)], 11))
        self.assertIs(Job(False, (1, 2), 3, (4, 5), 6, [(7, 8)], 11).mouldy, False)

    def test_task(self):
        hands, jobs = [([1, 2], 3), ([0, 9], 60)], [free_job(True), free_job(False, lain=7)]
        task = Task(2, hands, jobs, True)
        self.assertEqual(task_values(task), (2, hands, [values(job) for job in jobs], True))
        self.assertEqual(task.jobs, jobs)
        self.assertIs(type(task.jobs), list)
        self.assertTrue(all(type(hand) is tuple and type(hand[0]) is list for hand in task.hands))
        self.assertEqual(task_values(Task(6, [], [], False)), (6, [], [], False))

    def test_equal_jobs(self):
        whole = [False, (1, 2), 3, (4, 5), 6, [(7, 8)], 11]
        others = [True, (1, 3), 4, (4, 6), 7, [(7, 8), (7, 8)], 12]
        self.assertEqual(Job(*whole), Job(*whole))
        for place, other in enumerate(others):
            with self.subTest(place=place):
                self.assertNotEqual(Job(*whole), Job(*(whole[:place] + [other] + whole[place + 1:])))
        self.assertNotEqual(Job(*whole), tuple(whole))

    def test_a_job_keeps_copies(self):
        stays = [(1, 2), (3, 4)]
        first, second = free_job(stays=stays), free_job(stays=stays)
        stays.append((5, 6))
        first.stays.pop()
        self.assertEqual(second.stays, [(1, 2), (3, 4)])
        self.assertEqual(stays, [(1, 2), (3, 4), (5, 6)])

    def test_a_task_keeps_copies(self):
        hands, jobs = [([1, 2], 3)], [free_job(stays=[(1, 2)])]
        first, second = Task(2, hands, jobs, False), Task(2, hands, jobs, False)
        before = copy.deepcopy(task_values(first))
        hands[0][0][0] = 9
        hands.append(([0, 0], 0))
        jobs[0].stays.append((5, 6))
        jobs.append(free_job())
        self.assertEqual(task_values(first), before)
        first.hands[0][0][1] = 7
        first.hands.pop()
        first.jobs[0].stays.pop()
        first.jobs.pop()
        self.assertEqual(task_values(second), before)
        self.assertEqual((hands[0][0], len(jobs), jobs[0].stays), ([9, 2], 2, [(1, 2), (5, 6)]))


class Demand(unittest.TestCase):
    def test_nothing_to_do(self):
        self.assertEqual(demand(free_job(), 6, [0, 1, 2, 3, 4, 5]), 0)

    def test_each_row_counts(self):
        everyday = (1, 1)
        self.assertEqual(demand(free_job(turn_gap=everyday), 4, [0, 2, 3]), 3)
        self.assertEqual(demand(free_job(wash_gap=everyday), 4, [3, 1]), 2)
        self.assertEqual(demand(free_job(stays=[(1, 2), (1, 1), FREE]), 4, [0, 1, 2, 3]), 2)
        self.assertEqual(demand(free_job(False, everyday, 1, everyday, 1, [(3, 3), FREE], 1), 4, [2]), 3)
        self.assertEqual(demand(free_job(False, everyday, 1, everyday, 1, [(3, 3), FREE], 1), 4, [1]), 2)

    def test_none_where_a_row_cannot_be_kept(self):
        for job in (free_job(turned=61), free_job(washed=61), free_job(lain=61), free_job(turned=9999),
                    free_job(stays=[(1, 2)]), free_job(stays=[(1, 1), (1, 1)]),
                    free_job(turn_gap=(2, 2), turned=3)):
            for within in ([], [0], [0, 1, 2, 3, 4, 5]):
                with self.subTest(job=values(job), within=within):
                    self.assertIsNone(demand(job, 6, within))

    def test_stays_of_one_two_and_three_pairs(self):
        for stays, answer in (([(1, 9)], 0), ([(1, 2), (1, 9)], 1), ([(1, 2), (1, 1), (1, 9)], 2),
                              ([(1, 3)], None), ([(1, 2), (1, 1)], None), ([(1, 2), (1, 1), (1, 1)], None)):
            with self.subTest(stays=stays):
                self.assertEqual(demand(free_job(stays=stays), 6, [5, 4, 3, 2, 1, 0]), answer)

    def test_every_day_of_the_span_may_be_used(self):
        for days in range(1, 7):
            self.assertEqual(demand(free_job(turn_gap=(1, 1)), days, list(range(days))), days)
            self.assertEqual(demand(free_job(wash_gap=(1, 1)), days, list(range(days))), days)

    def test_drawn_jobs_against_fewest(self):
        chance = random.Random(10)
        seen = {None: 0, False: 0}
        for _ in range(1500):
            job, days = drawn_job(chance, 5), chance.randint(1, 6)
            within = chance.sample(range(days), chance.randint(0, days))
            before = copy.deepcopy((values(job), within))
            counts = [fewest([job.turn_gap] * (days + 1), job.turned, days, within),
                      fewest([job.wash_gap] * (days + 1), job.washed, days, within),
                      fewest(job.stays, job.lain, days, within)]
            answer = None if None in counts else sum(counts)
            self.assertEqual(demand(job, days, within), answer)
            self.assertEqual((values(job), within), before)
            seen[None if answer is None else False] += 1
        self.assertGreater(min(seen.values()), 100)


class Faults(unittest.TestCase):
    def check(self, words, task, plan):
        with self.subTest(plan=plan):
            before = copy.deepcopy((task_values(task), plan))
            told = faults(task, plan)
            self.assertEqual(told, words)
            self.assertIs(type(told), list)
            self.assertEqual((task_values(task), plan), before)

    def strict_task(self):
        """Job 0 is turned daily, washed on day 1 and moved on day 2; job 1 is mouldy and washed on day 0."""
        first = Job(False, (1, 1), 1, (3, 3), 2, [(2, 2), FREE], 0)
        second = free_job(True, wash_gap=(5, 7), washed=7)
        return Task(3, [([2, 1, 1], 4), ([1, 9, 9], 60)], [first, second], False)

    def strict_plan(self):
        return [(0, 0, "turn", 0), (0, 1, "wash", 1), (0, 0, "boil", -1), (1, 0, "turn", 0), (1, 1, "wash", 0),
                (2, 1, "turn", 0), (2, 0, "move", 0)]

    def test_without_a_fault(self):
        self.check([], self.strict_task(), self.strict_plan())
        self.check([], Task(1, [], [], True), [])
        self.check([], Task(6, wide_hands(6), [free_job(), free_job(True)], True), [])
        self.check([], Task(2, wide_hands(2), [], True), [(0, 0, "boil", -1), (1, 1, "boil", -1), (1, 0, "boil", -1)])

    def test_form_by_the_day(self):
        task = Task(3, wide_hands(3), [free_job()], False)
        for day in range(-5, 100):
            self.check([] if 0 <= day < 3 else ["form"], task, [(day, 0, "boil", -1)])

    def test_form_by_the_hand(self):
        for many in (0, 1, 5):
            task = Task(3, wide_hands(3, many), [free_job()], False)
            for hand in range(-5, 100):
                self.check([] if 0 <= hand < many else ["form"], task, [(0, hand, "boil", -1)])

    def test_form_by_the_job(self):
        for many in (0, 1, 4):
            task = Task(3, wide_hands(3), [free_job() for _ in range(many)], False)
            for deed in ("turn", "wash", "move"):
                for job in range(-5, 100):
                    self.check([] if 0 <= job < many else ["form"], task, [(1, 0, deed, job)])

    def test_form_by_the_job_of_a_boil(self):
        task = Task(3, wide_hands(3), [free_job(), free_job()], False)
        for job in range(-5, 100):
            self.check([] if job == -1 else ["form"], task, [(1, 0, "boil", job)])

    def test_form_by_the_word(self):
        task = Task(3, wide_hands(3), [free_job()], False)
        for deed in ("", "Turn", "turn ", "stay", "form", "sell", "boils", "x" * 200):
            for job in (-1, 0):
                self.check(["form"], task, [(1, 0, deed, job)])

    def test_form_by_a_falling_day(self):
        task = Task(3, wide_hands(3), [free_job()], False)
        self.check(["form"], task, [(1, 0, "boil", -1), (0, 0, "boil", -1)])
        self.check(["form"], task, [(0, 0, "boil", -1), (2, 0, "turn", 0), (1, 0, "boil", -1), (2, 0, "boil", -1)])
        self.check([], task, [(0, 0, "boil", -1), (2, 0, "turn", 0), (2, 1, "boil", -1), (2, 0, "boil", -1)])

    def test_form_stands_alone(self):
        task = Task(2, [([0, 0], 0)], [Job(False, (1, 1), 5, (1, 1), 5, [(1, 1)], 5)], True)
        self.check(["turn", "wash", "stay", "hand", "mould"], task, [(0, 0, "wash", 0)])
        for bad in ((2, 0, "wash", 0), (1, 1, "wash", 0), (1, 0, "rub", 0), (1, 0, "boil", 0), (1, 0, "wash", 1),
                    (-1, 0, "wash", 0), (1, -1, "wash", 0), (1, 0, "wash", -1)):
            self.check(["form"], task, [(0, 0, "wash", 0), bad])
            self.check(["form"], task, [bad, (1, 0, "wash", 0)])
        self.check(["form"], task, [(1, 0, "wash", 0), (0, 0, "wash", 0)])

    def test_form_by_any_place_in_the_plan(self):
        plan = self.strict_plan()
        for place in range(len(plan) + 1):
            self.check(["form"], self.strict_task(), plan[:place] + [(0, 9, "turn", 0)] + plan[place:])

    def every_second_day(self, deed):
        """Job 1 needs the deed on the days 1 and 3 of the four."""
        told = {"turn": {"turn_gap": (2, 2)}, "wash": {"wash_gap": (2, 2)}, "move": {"stays": [(2, 2)] * 3}}[deed]
        return Task(4, wide_hands(4), [free_job(), free_job(**told)], False)

    def test_rows(self):
        for deed, word in (("turn", "turn"), ("wash", "wash"), ("move", "stay")):
            task = self.every_second_day(deed)
            self.check([], task, [(1, 0, deed, 1), (3, 1, deed, 1)])
            for days in ([], [1], [3], [0, 3], [2, 3], [1, 2], [0, 2], [1, 1], [3, 3], [1, 1, 3], [1, 3, 3],
                         [0, 1, 3], [1, 2, 3], [0, 1, 2, 3], [1] * 9):
                self.check([word], task, [(day, 0, deed, 1) for day in days])
            self.check([word], task, [(1, 0, deed, 0), (3, 0, deed, 0)])
            self.check([word, "hand"], task, [(1, 0, deed, 1)] * 90)

    def test_more_moves_than_rooms(self):
        for many in (1, 2, 3):
            task = Task(6, wide_hands(6), [free_job(stays=[FREE] * many)], False)
            for moves in range(6):
                self.check([] if moves < many else ["stay"], task, [(day, 0, "move", 0) for day in range(moves)])

    def test_each_stay_has_its_own_gap(self):
        task = Task(6, wide_hands(6), [free_job(stays=[(2, 3), (1, 1), (4, 60)], lain=1)], False)
        for first in range(6):
            for second in range(first, 6):
                right = first in (1, 2) and second == first + 1
                self.check([] if right else ["stay"], task, [(first, 0, "move", 0), (second, 0, "move", 0)])

    def test_a_job_that_cannot_be_kept(self):
        task = Task(1, wide_hands(1), [free_job(turned=61), free_job(washed=61), free_job(lain=61)], False)
        self.check(["turn", "wash", "stay"], task, [])

    def test_each_deed_of_a_plan_counts(self):
        words = {"turn": ["turn"], "wash": ["wash"], "move": ["stay"], "boil": ["mould"]}
        plan = self.strict_plan()
        for place, entry in enumerate(plan):
            self.check(words[entry[2]], self.strict_task(), plan[:place] + plan[place + 1:])

    def test_hand_by_a_days_number(self):
        for row in ([2, 1, 0], [0, 3, 0], [2, 3, 1]):
            task = Task(3, [([9, 9, 9], 60), (row, 60)], [free_job()], False)
            for day in range(3):
                for many in range(5):
                    plan = [(day, 1, "boil", -1)] * many + [(day, 0, "boil", -1)] * 9
                    self.check([] if many <= row[day] else ["hand"], task, plan)

    def test_hand_by_the_most(self):
        for most in range(5):
            task = Task(3, [([9, 9, 9], most), ([9, 9, 9], 60)], [free_job()], False)
            for many in range(7):
                plan = sorted([(place % 3, 0, "boil", -1) for place in range(many)] + [(1, 1, "boil", -1)] * 9)
                self.check([] if many <= most else ["hand"], task, plan)

    def test_every_deed_loads_the_hand(self):
        for entry in ((0, 0, "turn", 0), (0, 0, "wash", 0), (0, 0, "move", 0), (0, 0, "boil", -1)):
            self.check([], Task(1, [([1], 1)], [free_job()], False), [entry])
            self.check(["hand"], Task(1, [([0], 1)], [free_job()], False), [entry])
            self.check(["hand"], Task(1, [([1], 0)], [free_job()], False), [entry])

    def mould(self, start, deeds):
        """Clean jobs are 0 and 1, mouldy ones 2 and 3; b is a boil; a stroke parts the days."""
        jobs = [free_job(), free_job(), free_job(True), free_job(True)]
        plan = []
        for day, letters in enumerate(deeds.split("/")):
            for letter in letters:
                plan.append((day, 0, "boil", -1) if letter == "b" else (day, 0, "wash", int(letter)))
        return Task(6, wide_hands(6), jobs, start), plan

    def test_mould(self):
        for start, deeds, fault in (
            (False, "0", False), (True, "0", True), (True, "b0", False), (True, "0b", True), (True, "2", False),
            (False, "20", True), (False, "02", False), (False, "2b0", False), (False, "b20", True),
            (False, "2/0", True), (False, "0/2", False), (False, "2/b0", False), (False, "2b/0", False),
            (False, "2/b/0", False), (False, "2/b/3/0", True), (False, "2/b/3b/0", False), (True, "b/0/2/3", False),
            (True, "b0123/b01/2/3", False), (True, "b0123/01/2/3", True), (False, "2//b//1", False),
            (False, "2////1", True), (False, "01/2b/01/3", False), (True, "23b/01", False), (True, "", False),
        ):
            task, plan = self.mould(start, deeds)
            self.check(["mould"] if fault else [], task, plan)

    def test_turning_and_moving_mould_nothing(self):
        task = Task(2, wide_hands(2), [free_job(), free_job(True)], False)
        self.check([], task, [(0, 0, "turn", 1), (0, 0, "move", 1), (0, 0, "wash", 0), (1, 0, "wash", 1)])
        self.check([], Task(2, wide_hands(2), [free_job()], True), [(0, 0, "turn", 0), (1, 0, "move", 0)])

    def test_several_words_in_their_order(self):
        daily = Job(False, (1, 1), 1, (1, 1), 1, [(1, 1), FREE], 1)
        task = Task(2, [([9, 0], 9)], [daily, daily], True)
        whole = [(0, 0, "boil", -1), (0, 0, "turn", 0), (0, 0, "wash", 0), (0, 0, "move", 0), (0, 0, "turn", 1),
                 (0, 0, "wash", 1), (0, 0, "move", 1), (1, 0, "wash", 0), (1, 0, "wash", 1), (1, 0, "turn", 0),
                 (1, 0, "turn", 1)]
        self.check(["hand"], task, whole)
        self.check(["hand", "mould"], task, whole[1:])
        self.check(["turn", "wash"], task, whole[:7])
        self.check(["turn", "wash", "stay"], task, whole[:6])
        self.check(["turn", "hand"], task, whole[:-1])
        self.check(["turn", "wash", "stay", "mould"], task, whole[1:3])
        self.check(["turn", "wash", "stay", "hand"], task, whole[:4] + [(1, 0, "turn", 1)])
        self.check(["stay", "hand", "mould"], task, whole[1:6] + whole[7:])

    def test_what_is_told_is_the_callers_own(self):
        task = Task(1, [], [free_job()], False)
        for plan in ([], [(9, 9, "", 9)]):
            told = faults(task, plan)
            right = list(told)
            told.append("x")
            self.assertEqual(faults(task, plan), right)
        self.assertEqual(FAULTS[-1], "mould")


if __name__ == "__main__":
    unittest.main()

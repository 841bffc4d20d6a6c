"""Point 13: a plan where there is one, too much work for some days, or neither."""

import copy
import functools
import itertools
import random
import unittest

from curdcellar.finder import find
from curdcellar.gaps import kept
from curdcellar.hands import strength
from curdcellar.plans import Job, Task, demand, faults

FREE = (1, 60)


def free_job(mouldy=False, turn_gap=FREE, turned=1, wash_gap=FREE, washed=1, stays=None, lain=1):
    """A job of which nothing has to be done, but for what is told."""
    return Job(mouldy, turn_gap, turned, wash_gap, washed, [FREE] if stays is None else stays, lain)


def values(task):
    jobs = [(job.mouldy, job.turn_gap, job.turned, job.wash_gap, job.washed, job.stays, job.lain) for job in task.jobs]
    return (task.days, task.hands, jobs, task.mouldy)


def rows_of(job, days):
    return [([job.turn_gap] * (days + 1), job.turned), ([job.wash_gap] * (days + 1), job.washed),
            (job.stays, job.lain)]


def keeping_lists(gaps, since, days):
    """All lists of days that keep the row; a least of 1 lets by rising ones alone."""
    lists = [done for size in range(days + 1) for done in itertools.combinations(range(days), size)]
    return [done for done in lists if kept(gaps, since, days, list(done))]


def subsets(days):
    return [list(found) for size in range(days + 1) for found in itertools.combinations(range(days), size)]


def added(first, second):
    return tuple(one + other for one, other in zip(first, second))


def all_sums(days, rows):
    """The numbers of deeds by day that some choice of one list for each row makes."""
    sums = {(0,) * days}
    for gaps, since in rows:
        lists = keeping_lists(gaps, since, days)
        sums = {added(found, [int(day in done) for day in range(days)]) for found in sums for done in lists}
    return sums


@functools.lru_cache(maxsize=None)
def tubs_after(start, clean, mouldy, boils):
    """How the tub may be after a day, over all orders of the day's washings and boils."""
    ends = set()
    for order in set(itertools.permutations("c" * clean + "m" * mouldy + "b" * boils)):
        tub = start
        for letter in order:
            if letter == "c" and tub:
                break
            tub = tub if letter == "c" else letter == "m"
        else:
            ends.add(tub)
    return ends


def tub_lets_by(task, washed, boiled):
    tubs = {task.mouldy}
    for day in range(task.days):
        clean = sum(day in done and not job.mouldy for job, done in zip(task.jobs, washed))
        mouldy = sum(day in done and job.mouldy for job, done in zip(task.jobs, washed))
        tubs = set().union(*[tubs_after(tub, clean, mouldy, boiled[day]) for tub in tubs])
    return bool(tubs)


def wash_and_boil_sums(task):
    """The numbers by day of all washings and boils that keep mould from the clean jobs."""
    lists = [keeping_lists([job.wash_gap] * (task.days + 1), job.washed, task.days) for job in task.jobs]
    sums = set()
    for washed in itertools.product(*lists):
        for boiled in itertools.product(range(2), repeat=task.days):
            if tub_lets_by(task, washed, boiled):
                sums.add(tuple(sum(day in done for done in washed) + boiled[day] for day in range(task.days)))
    return sums


def plan_by_lists(task):
    """Whether there is a plan: all lists of days gone through, with one boil a day at most."""
    rows = [row for job in task.jobs for row in rows_of(job, task.days)[::2]]
    sets = [(within, strength(task.hands, within)) for within in subsets(task.days)]
    others = all_sums(task.days, rows)
    for sums in wash_and_boil_sums(task):
        for more in others:
            loads = added(sums, more)
            if all(sum(loads[day] for day in within) <= able for within, able in sets):
                return True
    return False


def changed(numbers, place, number):
    return numbers[:place] + (number,) + numbers[place + 1:]


class Steps:
    """All plans gone through deed by deed, with all that the doer of point 12 may do next."""

    def __init__(self, task):
        self.task = task
        self.rows = [row for job in task.jobs for row in rows_of(job, task.days)]
        self.seen = set()

    def ends_well(self, day, today, whole, done, tub):
        state = (day, today, whole, done, tub)
        if state in self.seen:
            return False
        self.seen.add(state)
        if day == self.task.days:
            return all(kept(gaps, since, day, list(days)) for (gaps, since), days in zip(self.rows, done))
        if self.ends_well(day + 1, (0,) * len(today), whole, done, tub):
            return True
        for hand, (row, most) in enumerate(self.task.hands):
            if today[hand] < row[day] and whole[hand] < most:
                counts = (changed(today, hand, today[hand] + 1), changed(whole, hand, whole[hand] + 1))
                if self.one_more(day, counts, done, tub):
                    return True
        return False

    def one_more(self, day, counts, done, tub):
        if self.ends_well(day, counts[0], counts[1], done, False):
            return True
        for place, (gaps, since) in enumerate(self.rows):
            days = done[place]
            passed = day - (days[-1] if days else -since)
            # A list that breaks its row already won't keep it later.
            if len(days) < len(gaps) - 1 and gaps[len(days)][0] <= passed <= gaps[len(days)][1]:
                mouldy = self.task.jobs[place // 3].mouldy
                washes = place % 3 == 1
                if not (washes and tub and not mouldy):
                    further = changed(done, place, days + (day,))
                    if self.ends_well(day, counts[0], counts[1], further, mouldy if washes else tub):
                        return True
        return False


def plan_by_steps(task):
    none = (0,) * len(task.hands)
    return Steps(task).ends_well(0, none, none, ((),) * (3 * len(task.jobs)), task.mouldy)


def least_days(task):
    """The fewest days on which some jobs' demands are more than the strength; None if there are none."""
    for within in subsets(task.days):
        demands = [demand(job, task.days, within) for job in task.jobs]
        if sum(count for count in demands if count is not None) > strength(task.hands, within):
            return len(within)
    return None


def drawn_gap(chance, top):
    least = 1 if chance.random() < 0.7 else chance.randint(1, top)
    return (least, chance.randint(least, top))


def drawn_job(chance, days, top, strict):
    while True:
        turn_gap, wash_gap = drawn_gap(chance, top), drawn_gap(chance, top)
        stays = [drawn_gap(chance, top) for _ in range(chance.randint(1, 3))]
        job = Job(chance.random() < 0.5, turn_gap, chance.randint(0, turn_gap[1]), wash_gap,
                  chance.randint(0, wash_gap[1]), stays, chance.randint(0, stays[0][1]))
        if not strict or demand(job, days, []) is not None:
            return job


def drawn_loads(chance, task_days, jobs):
    """What some lists that keep the rows ask for by day, with some deeds put elsewhere, left out or added."""
    loads = [chance.randint(0, 1) for _ in range(task_days)]
    for job in jobs:
        for gaps, since in rows_of(job, task_days):
            for day in chance.choice(keeping_lists(gaps, since, task_days) or [()]):
                loads[day] += 1
    for _ in range(chance.randint(0, 4)):
        day = chance.randrange(task_days)
        if loads[day] > 0:
            loads[day] -= 1
            loads[chance.randrange(task_days)] += chance.randint(0, 1)
    return loads


def drawn_hands(chance, days, loads, many):
    rows = [[0] * days for _ in range(many)]
    for day, load in enumerate(loads if many else []):
        for _ in range(load):
            rows[chance.randrange(many)][day] += 1
    mosts = [sum(row) for row in rows]
    if chance.random() < 0.5:
        rows = [[able + chance.randint(0, 1) for able in row] for row in rows]
    return [(row, most) for row, most in zip(rows, mosts)]


def drawn_task(chance, days, many_jobs, many_hands):
    strict = chance.random() < 0.9
    jobs = [drawn_job(chance, days, days + 1, strict) for _ in range(many_jobs)]
    hands = drawn_hands(chance, days, drawn_loads(chance, days, jobs), many_hands)
    return Task(days, hands, jobs, chance.random() < 0.5)


class Find(unittest.TestCase):
    def check_plan(self, task, deeds):
        self.assertIs(type(deeds), list)
        self.assertTrue(all(type(entry) is tuple for entry in deeds))
        self.assertLessEqual(len(deeds), 90)
        self.assertEqual(faults(task, deeds), [])

    def check_many(self, task, jobs, days):
        for places, size in ((jobs, len(task.jobs)), (days, task.days)):
            self.assertIs(type(places), list)
            self.assertEqual(places, sorted(set(places)))
            self.assertTrue(set(places) <= set(range(size)))
        demands = [demand(task.jobs[job], task.days, days) for job in jobs]
        self.assertNotIn(None, demands)
        self.assertGreater(sum(demands), strength(task.hands, days))
        self.assertEqual(len(days), least_days(task))

    def check_answer(self, task):
        """The answer's own truth; whether there is a plan is for the caller to say."""
        before = copy.deepcopy(values(task))
        answer = find(task)
        self.assertEqual(values(task), before)
        self.assertIs(type(answer), tuple)
        if answer[0] == "plan":
            self.assertEqual(len(answer), 2)
            self.check_plan(task, answer[1])
        elif answer[0] == "many":
            self.assertEqual(len(answer), 3)
            self.check_many(task, answer[1], answer[2])
        else:
            self.assertEqual(answer, ("none",))
            self.assertIsNone(least_days(task))
        return answer

    def check(self, word, task):
        with self.subTest(task=values(task)):
            answer = self.check_answer(task)
            self.assertEqual(answer[0], word)
            return answer

    def test_no_jobs(self):
        for hands in ([], [([0, 0], 0)], [([9, 9], 60)] * 5):
            for mouldy in (False, True):
                self.check("plan", Task(2, hands, [], mouldy))

    def test_no_hands(self):
        self.assertEqual(find(Task(3, [], [free_job(), free_job(True)], True)), ("plan", []))
        self.assertEqual(self.check("many", Task(3, [], [free_job(turn_gap=(2, 2))], False))[1:], ([0], [1]))
        self.check("none", Task(3, [], [free_job(turned=61)], False))
        self.check("none", Task(3, [], [free_job(stays=[(1, 2)])], False))
        # It may be turned on any of the days, but has to be on one of them.
        self.assertEqual(self.check("many", Task(3, [], [free_job(turn_gap=(1, 3))], False))[1:], ([0], [0, 1, 2]))

    def test_just_enough_and_one_less(self):
        daily = free_job(turn_gap=(1, 1), wash_gap=(1, 1))
        for days in range(1, 7):
            self.check("plan", Task(days, [([8] * days, 60)], [daily] * 4, False))
            self.check("plan", Task(days, [([4] * days, 60)] * 2, [daily] * 4, False))
            self.check("many", Task(days, [([4] * days, 60), ([3] * days, 60)], [daily] * 4, False))
            self.check("many", Task(days, [([8] * days, days * 8 - 1)], [daily] * 4, False))

    def test_the_largest_plan(self):
        daily = Job(False, (1, 1), 1, (1, 1), 1, [(1, 1), (1, 1), FREE], 1)
        mould = Job(True, (1, 1), 1, (1, 1), 1, [(1, 1), (1, 1), FREE], 1)
        jobs = [daily, mould, daily, mould]
        self.check("plan", Task(6, [([9] * 6, 60), ([4] * 6, 60)], jobs, True))
        self.check("none", Task(6, [([9, 3, 8, 8, 8, 8], 60), ([3, 9, 0, 0, 0, 0], 60)], jobs, True))
        self.check("many", Task(6, [([9, 2, 8, 8, 8, 8], 60), ([3, 9, 0, 0, 0, 0], 60)], jobs, True))

    def test_a_job_that_cannot_be_kept(self):
        wide = [([9] * 3, 60)]
        for job in (free_job(turned=61), free_job(washed=61), free_job(lain=61), free_job(stays=[(1, 2)])):
            self.check("none", Task(3, wide, [job], False))
            self.check("none", Task(3, wide, [free_job(), job], False))
            answer = self.check("many", Task(3, [([9, 0, 9], 60)], [job, free_job(turn_gap=(2, 2))], False))
            self.assertEqual(answer, ("many", [1], [1]))

    def test_clean_and_mouldy_jobs_washed_on_the_same_days(self):
        clean, mouldy = free_job(wash_gap=(1, 1)), free_job(True, wash_gap=(1, 1))
        # The clean go first on a day, so that no boil is needed before the next day.
        self.check("plan", Task(1, [([2], 60)], [mouldy, clean], False))
        self.check("none", Task(1, [([2], 60)], [mouldy, clean], True))
        self.check("plan", Task(1, [([3], 60)], [mouldy, clean], True))
        # One boil serves two days: mouldy, boil, clean on the first of them.
        self.check("plan", Task(2, [([3, 2], 60)], [mouldy, clean], True))
        self.check("plan", Task(2, [([2, 3], 60)], [mouldy, clean], False))
        self.check("none", Task(2, [([2, 2], 60)], [mouldy, clean], False))
        self.check("plan", Task(3, [([2, 3, 2], 60)], [mouldy, clean], False))
        self.check("none", Task(4, [([2, 3, 2, 2], 60)], [mouldy, clean], False))
        self.check("plan", Task(4, [([3, 2, 3, 2], 60)], [mouldy, clean], False))
        self.check("plan", Task(4, [([2, 3, 3, 2], 60)], [clean, mouldy], False))

    def test_a_boil_on_a_day_between(self):
        # The mouldy job is washed on day 0, the clean one on day 3.
        jobs = [free_job(True, wash_gap=(5, 60), washed=60), free_job(wash_gap=(5, 5), washed=2)]
        for row, word in (([1, 0, 0, 1], "none"), ([1, 1, 0, 1], "plan"), ([1, 0, 1, 1], "plan"),
                          ([2, 0, 0, 1], "plan"), ([1, 0, 0, 2], "plan"), ([0, 1, 1, 1], "many")):
            self.check(word, Task(4, [(row, 60)], jobs, False))

    def test_a_boil_where_the_mouldy_job_is_washed_daily(self):
        jobs = [free_job(True, wash_gap=(1, 1)), free_job(wash_gap=(5, 5), washed=2)]
        for row, word in (([1, 1, 1, 3], "plan"), ([1, 1, 2, 2], "plan"), ([1, 2, 1, 2], "none")):
            self.check(word, Task(4, [(row, 60)], jobs, False))

    def test_mouldy_jobs_alone_need_no_boil(self):
        daily = free_job(True, wash_gap=(1, 1))
        for start in (False, True):
            self.check("plan", Task(3, [([2, 2, 2], 6)], [daily, daily], start))

    def test_clean_jobs_alone_need_a_boil_at_the_start_at_most(self):
        daily = free_job(wash_gap=(1, 1))
        self.check("plan", Task(3, [([1, 1, 1], 3)], [daily], False))
        self.check("none", Task(3, [([1, 2, 2], 60)], [daily], True))
        self.check("plan", Task(3, [([2, 1, 1], 4)], [daily], True))

    def test_neither_plan_nor_too_many(self):
        # Turned on day 1, or on days 0 and 2: each set of days could bear the least of it, no hand can do either.
        job = free_job(True, turn_gap=(1, 2))
        for hands, word in (([([1, 0, 1], 1)], "none"), ([([1, 0, 1], 2)], "plan"), ([([0, 1, 0], 1)], "plan"),
                            ([([1, 0, 0], 1), ([0, 0, 1], 1)], "plan"), ([([1, 0, 0], 1), ([1, 0, 0], 1)], "many"),
                            ([([0, 0, 1], 0)], "many")):
            self.check(word, Task(3, hands, [job], False))

    def check_all(self, tasks, has_plan):
        words = {"plan": 0, "many": 0, "none": 0}
        for task in tasks:
            with self.subTest(task=values(task)):
                answer = self.check_answer(task)
                self.assertEqual(answer[0] == "plan", has_plan(task))
                words[answer[0]] += 1
        self.assertGreater(min(words.values()), len(tasks) // 40, words)

    def test_small_tasks_against_all_plans(self):
        chance = random.Random(13)
        tasks = []
        for _ in range(1000):
            days = chance.randint(1, 3)
            tasks.append(drawn_task(chance, days, chance.randint(0, 3 - days // 2), chance.randint(0, 2)))
        self.check_all(tasks, plan_by_steps)

    def test_larger_tasks_against_all_lists_of_days(self):
        chance = random.Random(1313)
        self.check_all([drawn_task(chance, chance.randint(2, 4), chance.randint(1, 3), chance.randint(1, 3))
                        for _ in range(600)], plan_by_lists)

    def test_the_largest_tasks(self):
        chance = random.Random(131313)
        for _ in range(60):
            self.check_answer(drawn_task(chance, 6, 4, chance.randint(1, 5)))


if __name__ == "__main__":
    unittest.main()

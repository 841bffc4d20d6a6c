"""Point 22: the task of some wheels."""

import unittest

from cellars import CellarChecks, furnished, with_wheels
from curdcellar.errors import Gone, Unknown
from curdcellar.finder import find
from curdcellar.plans import Job, Task, faults


def values(job):
    return (job.mouldy, job.turn_gap, job.turned, job.wash_gap, job.washed, job.stays, job.lain)


def task_values(task):
    return (task.days, task.hands, [values(job) for job in task.jobs], task.mouldy)


class Tasks(CellarChecks, unittest.TestCase):
    def job(self, cellar, wheel):
        return cellar.task([wheel], 3, [], "brine1", "cloth1").jobs[0]

    def since(self, cellar, wheel):
        job = self.job(cellar, wheel)
        return (job.turned, job.washed, job.lain)

    def test_a_whole_task(self):
        cellar = with_wheels()
        cellar.night(4)
        cellar.turn("g1")
        cellar.night(2)
        cellar.wash("b2", "brine2", "cloth2")
        cellar.move("g1", "t2")
        cellar.night()
        hands = [([1, 2, 3], 4), ([9, 0, 9], 60)]
        task = cellar.task(["b2", "g1"], 3, hands, "brine1", "cloth2")
        self.assertIsInstance(task, Task)
        self.assertTrue(all(isinstance(job, Job) for job in task.jobs))
        self.assertEqual(task_values(task), (3, hands, [
            (True, (1, 4), 7, (2, 6), 1, [(1, 10), (2, 20)], 7),
            (False, (1, 3), 3, (2, 5), 7, [(2, 20), (3, 30)], 1),
        ], True))

    def test_the_days_since_before_the_first_deed(self):
        cellar = furnished()
        cellar.night(5)
        cellar.new_wheel("w", "milk", "gouda", "s1", 100)
        self.assertEqual(self.since(cellar, "w"), (0, 0, 0))
        cellar.night(3)
        self.assertEqual(self.since(cellar, "w"), (3, 3, 3))

    def test_the_days_since_turning_and_washing(self):
        cellar = with_wheels()
        cellar.night(3)
        cellar.turn("g1")
        self.assertEqual(self.since(cellar, "g1"), (0, 3, 3))
        self.assertEqual(self.since(cellar, "g2"), (3, 3, 3))
        cellar.night(2)
        cellar.wash("g1", "brine1", "cloth1")
        self.assertEqual(self.since(cellar, "g1"), (2, 0, 5))
        cellar.night()
        cellar.turn("g1")
        cellar.turn("g1")
        self.assertEqual(self.since(cellar, "g1"), (0, 1, 6))
        cellar.night()
        cellar.wash("g1", "brine1", "cloth1")
        cellar.night()
        self.assertEqual(self.since(cellar, "g1"), (2, 1, 8))

    def test_refused_deeds_count_for_nothing(self):
        cellar = with_wheels()
        cellar.wash("b1", "brine2", "cloth2")
        cellar.night(2)
        for deed, told in (("wash", ("g1", "brine2", "cloth1")), ("move", ("g1", "s3"))):
            with self.assertRaises(ValueError):
                getattr(cellar, deed)(*told)
        self.assertEqual(self.since(cellar, "g1"), (2, 2, 2))

    def test_the_days_since_moving_into_the_room(self):
        cellar = with_wheels()
        cellar.night(2)
        for shelf, lain, stays in (("t1", 2, 3), ("s1", 2, 3), ("s2", 0, 2)):
            cellar.move("g1", shelf)
            job = self.job(cellar, "g1")
            self.assertEqual((job.lain, len(job.stays)), (lain, stays))
        cellar.night(4)
        cellar.move("g1", "t2")
        self.assertEqual(self.since(cellar, "g1"), (6, 6, 4))
        cellar.move("g1", "t3")
        cellar.night()
        cellar.move("g1", "s3")
        self.assertEqual(self.since(cellar, "g1"), (7, 7, 1))

    def test_the_stays_from_the_room_on(self):
        cellar = with_wheels()
        self.assertEqual(self.job(cellar, "g1").stays, [(1, 10), (2, 20), (3, 30)])
        cellar.move("g1", "s2")
        self.assertEqual(self.job(cellar, "g1").stays, [(2, 20), (3, 30)])
        cellar.move("g1", "s3")
        self.assertEqual(self.job(cellar, "g1").stays, [(3, 30)])
        cellar.move("b1", "s2")
        self.assertEqual(self.job(cellar, "b1").stays, [(2, 20)])
        self.assertEqual(self.job(cellar, "b2").stays, [(1, 10), (2, 20)])

    def test_the_tub(self):
        for brine in ("brine1", "brine2"):
            for cloth in ("cloth1", "cloth2"):
                cellar = with_wheels()
                cellar.wash("g1", "brine1", "cloth1")
                self.assertIs(cellar.task([], 1, [], brine, cloth).mouldy, False)
                cellar.wash("b1", "brine1", "cloth1")
                mouldy = brine == "brine1" or cloth == "cloth1"
                self.assertIs(cellar.task([], 1, [], brine, cloth).mouldy, mouldy)
                cellar.boil("brine1")
                self.assertIs(cellar.task([], 1, [], brine, cloth).mouldy, cloth == "cloth1")
                cellar.boil("cloth1")
                self.assertIs(cellar.task([], 1, [], brine, cloth).mouldy, False)

    def test_wheels_in_the_order_told(self):
        cellar = with_wheels()
        cellar.turn("g1")
        for day, wheel in enumerate(("g2", "b1", "b2")):
            cellar.night()
            cellar.turn(wheel)
        for wheels in ([], ["b1"], ["b2", "g1", "b1", "g2"], ["g1", "g2", "b1", "b2"]):
            task = cellar.task(wheels, 2, [], "brine1", "cloth1")
            self.assertEqual([job.turned for job in task.jobs],
                             [{"g1": 3, "g2": 2, "b1": 1, "b2": 0}[wheel] for wheel in wheels])

    def test_refusals(self):
        cellar = with_wheels()
        cellar.cut("g2", [5])
        for wheels, brine, cloth in ((["no"], "brine1", "cloth1"), (["g1", "s1"], "brine1", "cloth1"),
                                     (["g1"], "no", "cloth1"), (["g1"], "cloth1", "cloth1"),
                                     (["g1"], "brine1", "no"), (["g1"], "brine1", "brine1"),
                                     (["g2", "no"], "brine1", "cloth1"), (["g2/1"], "brine1", "cloth1")):
            self.refused(Unknown, cellar, "task", wheels, 3, [], brine, cloth)
        self.refused(Gone, cellar, "task", ["g2"], 3, [], "brine1", "cloth1")
        self.refused(Gone, cellar, "task", ["g1", "g2", "b1"], 3, [], "brine1", "cloth1")

    def test_no_trace_of_changed_lists(self):
        cellar = with_wheels()
        wheels, hands = ["g1", "b1"], [([1, 2], 3)]
        task = cellar.task(wheels, 2, hands, "brine1", "cloth1")
        whole = task_values(cellar.task(["g1", "b1"], 2, [([1, 2], 3)], "brine1", "cloth1"))
        wheels.append("b2")
        hands[0][0][0] = 9
        hands.append(([0, 0], 0))
        self.assertEqual(task_values(task), whole)
        task.jobs[0].stays.clear()
        task.jobs.pop()
        task.hands[0][0].append(5)
        self.assertEqual(hands, [([9, 2], 3), ([0, 0], 0)])
        self.assertEqual(task_values(cellar.task(["g1", "b1"], 2, [([1, 2], 3)], "brine1", "cloth1")), whole)

    def test_a_task_can_be_planned(self):
        cellar = with_wheels()
        cellar.night(2)
        task = cellar.task(["g1", "g2", "b1", "b2"], 6, [([9] * 6, 60)] * 3, "brine1", "cloth1")
        answer = find(task)
        self.assertEqual((answer[0], faults(task, answer[1])), ("plan", []))


if __name__ == "__main__":
    unittest.main()

"""Jobs, tasks, and the faults of a plan (points 9 to 12)."""

from curdcellar.gaps import fewest, kept

DEEDS = ("turn", "wash", "move", "boil")
FAULTS = ("form", "turn", "wash", "stay", "hand", "mould")


class Job:
    def __init__(self, mouldy, turn_gap, turned, wash_gap, washed, stays, lain):
        self.mouldy = mouldy
        self.turn_gap = turn_gap
        self.turned = turned
        self.wash_gap = wash_gap
        self.washed = washed
        self.stays = list(stays)
        self.lain = lain

    # A task keeps copies of its jobs, and they are to be equal to those that were handed in.
    def __eq__(self, other):
        return isinstance(other, Job) and job_values(self) == job_values(other)


class Task:
    def __init__(self, days, hands, jobs, mouldy):
        self.days = days
        self.hands = [(list(row), most) for row, most in hands]
        self.jobs = [copy_of(job) for job in jobs]
        self.mouldy = mouldy


def job_values(job):
    return (job.mouldy, job.turn_gap, job.turned, job.wash_gap, job.washed, job.stays, job.lain)


def copy_of(job):
    return Job(job.mouldy, job.turn_gap, job.turned, job.wash_gap, job.washed, job.stays, job.lain)


def gap_row(job, deed, days):
    if deed == "turn":
        return [job.turn_gap] * (days + 1)
    if deed == "wash":
        return [job.wash_gap] * (days + 1)
    return list(job.stays)


def days_since(job, deed):
    if deed == "turn":
        return job.turned
    if deed == "wash":
        return job.washed
    return job.lain


def demand(job, days, within):
    counts = [fewest(gap_row(job, deed, days), days_since(job, deed), days, within)
              for deed in ("turn", "wash", "move")]
    return None if None in counts else sum(counts)


def has_place(place, things):
    return 0 <= place < len(things)


def is_deed_of(task, day, hand, deed, job):
    if not 0 <= day < task.days or not has_place(hand, task.hands) or deed not in DEEDS:
        return False
    return job == -1 if deed == "boil" else has_place(job, task.jobs)


def has_form(task, plan):
    if not all([is_deed_of(task, day, hand, deed, job) for day, hand, deed, job in plan]):
        return False
    return all([before[0] <= entry[0] for before, entry in zip(plan, plan[1:])])


def breaks_row(task, plan, deed):
    for place, job in enumerate(task.jobs):
        done = [entry[0] for entry in plan if entry[2] == deed and entry[3] == place]
        if not kept(gap_row(job, deed, task.days), days_since(job, deed), task.days, done):
            return True
    return False


def overworks(task, plan):
    for place, hand in enumerate(task.hands):
        done = [entry[0] for entry in plan if entry[1] == place]
        if len(done) > hand[1] or any([done.count(day) > hand[0][day] for day in range(task.days)]):
            return True
    return False


def spreads_mould(task, plan):
    tub_mouldy = task.mouldy
    for entry in plan:
        if entry[2] == "boil":
            tub_mouldy = False
        elif entry[2] == "wash" and task.jobs[entry[3]].mouldy:
            tub_mouldy = True
        elif entry[2] == "wash" and tub_mouldy:
            return True
    return False


def faults(task, plan):
    if not has_form(task, plan):
        return ["form"]
    earned = {
        "form": False,
        "turn": breaks_row(task, plan, "turn"),
        "wash": breaks_row(task, plan, "wash"),
        "stay": breaks_row(task, plan, "move"),
        "hand": overworks(task, plan),
        "mould": spreads_mould(task, plan),
    }
    return [word for word in FAULTS if earned[word]]

"""A plan for a task, or what stands in its way (point 13)."""

from curdcellar.gaps import keeping
from curdcellar.hands import day_sets, sets_by_size, share, strength
from curdcellar.plans import days_since, demand, gap_row


# One deed of one job. A choice for it is a tuple of counts, one for each day. Parts make a chain, and the lists of
# sums go over all sets of days in the order of day_sets: need is the least, most the most that this part and those
# after it can do there. The states of dead are those in which they can't be filled: they come again and again.
class Part:
    def __init__(self, deed, job, choices, after):
        self.deed = deed
        self.job = job
        self.choices = choices
        self.after = after
        self.sums = [set_sums(counts) for counts in choices]
        columns = [[sums[place] for sums in self.sums] for place in range(len(self.sums[0]))]
        self.need = [min(column) for column in columns]
        self.most = [max(column) for column in columns]
        if after is not None:
            self.need = [own + others for own, others in zip(self.need, after.need)]
            self.most = [own + others for own, others in zip(self.most, after.most)]
        self.dead = {}


def set_sums(counts):
    sums = [0]
    for count in counts:
        sums = sums + [found + count for found in sums]
    return sums


def holds(counts, others):
    return all([count >= other for count, other in zip(counts, others)])


def bare(choices):
    # A plan without some deed is never worse for the hands or the tub, so choices that hold another are left out.
    return [counts for counts in choices
            if not any([counts != others and holds(counts, others) for others in choices])]


def job_choices(job, deed, days):
    lists = keeping(gap_row(job, deed, days), days_since(job, deed), days)
    return bare([tuple([done.count(day) for day in range(days)]) for done in lists])


def tub_courses(days, mouldy):
    # The words say for whom the tub is there on a day. A day of "both" washes the clean ones first and leaves the
    # tub mouldy. A day of "boil" is for both too: it washes the mouldy ones, boils, washes the clean ones and leaves
    # the tub clean, so no day needs a second boil.
    courses = [[]]
    for day in range(days):
        longer = []
        for course in courses:
            dirty = course[-1] in ("mouldy", "both") if course else mouldy
            choices = ("mouldy", "boil") if dirty else ("clean", "both", "boil")
            longer.extend([course + [choice] for choice in choices])
        courses = longer
    return courses


def suits(counts, course, closed):
    return all([count == 0 or word != closed for count, word in zip(counts, course)])


def washings(task):
    whole = [job_choices(job, "wash", task.days) for job in task.jobs]
    found = {}
    for course in tub_courses(task.days, task.mouldy):
        fitting = []
        for job, choices in zip(task.jobs, whole):
            closed = "clean" if job.mouldy else "mouldy"
            fitting.append(tuple([counts for counts in choices if suits(counts, course, closed)]))
        if () not in fitting:
            boils = tuple([1 if word == "boil" else 0 for word in course])
            found.setdefault(tuple(fitting), []).append(boils)
    return [(fitting, bare(boils)) for fitting, boils in found.items()]


def fill(part, left):
    if part is None:
        return None if min(left) < 0 else []
    # What can't be used up makes no difference: cut off, cases that differ in it alone become one state.
    state = tuple([min(room, most) for room, most in zip(left, part.most)])
    if state in part.dead or any([room < need for room, need in zip(state, part.need)]):
        return None
    for counts, sums in zip(part.choices, part.sums):
        others = fill(part.after, [room - used for room, used in zip(state, sums)])
        if others is not None:
            return [(part.deed, part.job, counts)] + others
    part.dead[state] = True
    return None


def turn_and_move_parts(task):
    chain = None
    for place, job in enumerate(task.jobs):
        for deed in ("turn", "move"):
            chain = Part(deed, place, job_choices(job, deed, task.days), chain)
    return chain


def wash_parts(fitting, chains):
    # Many courses of the tub have the same washings, and what was learnt of them is not to be lost.
    if fitting not in chains:
        place = len(fitting) - 1
        chains[fitting] = Part("wash", place, fitting[place], wash_parts(fitting[:place], chains))
    return chains[fitting]


def choose(task):
    if any([demand(job, task.days, []) is None for job in task.jobs]):
        return None
    left = [strength(task.hands, within) for within in day_sets(task.days)]
    chains = {(): turn_and_move_parts(task)}
    for fitting, boils in washings(task):
        chosen = fill(Part("boil", -1, boils, wash_parts(fitting, chains)), left)
        if chosen is not None:
            return chosen
    return None


def deeds_on(day, chosen, jobs):
    deeds = []
    for deed, job, counts in chosen:
        deeds.extend([(deed, job)] * counts[day])
    boils = [pair for pair in deeds if pair[0] == "boil"]
    clean = [pair for pair in deeds if pair[0] == "wash" and not jobs[pair[1]].mouldy]
    mouldy = [pair for pair in deeds if pair[0] == "wash" and jobs[pair[1]].mouldy]
    others = [pair for pair in deeds if pair[0] not in ("boil", "wash")]
    return others + (mouldy + boils + clean if boils else clean + mouldy)


def with_hands(task, chosen):
    days = [deeds_on(day, chosen, task.jobs) for day in range(task.days)]
    table = share([len(deeds) for deeds in days], task.hands)[1]
    plan = []
    for day, deeds in enumerate(days):
        doers = []
        for hand, numbers in enumerate(table):
            doers.extend([hand] * numbers[day])
        plan.extend([(day, hand, pair[0], pair[1]) for hand, pair in zip(doers, deeds)])
    return plan


def too_many(task):
    for within in sets_by_size(task.days):
        demands = [demand(job, task.days, within) for job in task.jobs]
        jobs = [place for place, count in enumerate(demands) if count is not None and count > 0]
        if sum([demands[place] for place in jobs]) > strength(task.hands, within):
            return ("many", jobs, within)
    return None


def find(task):
    chosen = choose(task)
    if chosen is not None:
        return ("plan", with_hands(task, chosen))
    many = too_many(task)
    return ("none",) if many is None else many

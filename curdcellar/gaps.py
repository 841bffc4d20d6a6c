"""Rows of gaps between the days of a deed (points 5 and 6)."""


def fits(gap, passed):
    return gap[0] <= passed <= gap[1]


def lasts(gap, last, days):
    # The span may end before the gap's least days are over, but not after its most.
    return days - last <= gap[1]


def kept(gaps, since, days, done):
    if len(done) >= len(gaps):
        return False
    last = -since
    for gap, day in zip(gaps, done):
        if not fits(gap, day - last):
            return False
        last = day
    return lasts(gaps[len(done)], last, days)


def after_gap(reached, gap, days, within):
    further = {}
    for day in range(days):
        counts = [told for last, told in reached.items() if fits(gap, day - last)]
        if counts:
            further[day] = min(counts) + (1 if day in within else 0)
    return further


def fewest(gaps, since, days, within):
    # Lists with as many days and the same last day go on alike, so for each
    # last day only the least count of told days is kept.
    reached = {-since: 0}
    ended = []
    for gap in gaps:
        ended.extend([told for last, told in reached.items() if lasts(gap, last, days)])
        reached = after_gap(reached, gap, days, within)
    return min(ended, default=None)


def keeping(gaps, since, days):
    ended = []
    begun = [[]]
    for gap in gaps:
        longer = []
        for done in begun:
            last = done[-1] if done else -since
            if lasts(gap, last, days):
                ended.append(done)
            longer.extend([done + [day] for day in range(days) if fits(gap, day - last)])
        begun = longer
    return ended

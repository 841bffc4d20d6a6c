"""What the hands can do, and how the deeds of a span are shared among them (points 7 and 8)."""


def day_sets(days):
    # The sets without the last day come first, then the same ones with it: others count on this order.
    sets = [[]]
    for day in range(days):
        sets = sets + [found + [day] for found in sets]
    return sets


def sets_by_size(days):
    return sorted(day_sets(days), key=len)


def on_days(numbers, within):
    return sum([numbers[day] for day in within])


def strength(hands, within):
    return sum([min(most, on_days(row, within)) for row, most in hands])


def takers(table, hands, day):
    return [hand for hand, numbers in enumerate(table) if numbers[day] < hands[hand][0][day]]


def hand_on(table, came, day, hand):
    table[hand][day] += 1
    while came[day] is not None:
        earlier = came[day][0]
        giver = came[day][1]
        table[giver][day] -= 1
        table[giver][earlier] += 1
        day = earlier


def add_deed(table, hands, day):
    # A hand that does its most already can still take the deed, if another hand
    # takes over one of its other days: so the walk goes from day to day.
    came = {day: None}
    waiting = [day]
    while waiting:
        at = waiting.pop(0)
        for hand in takers(table, hands, at):
            if sum(table[hand]) < hands[hand][1]:
                hand_on(table, came, at, hand)
                return True
            for other, number in enumerate(table[hand]):
                if number > 0 and other not in came:
                    came[other] = (at, hand)
                    waiting.append(other)
    return False


def too_many_days(loads, hands):
    for within in sets_by_size(len(loads)):
        if on_days(loads, within) > strength(hands, within):
            return within
    return None


def share(loads, hands):
    table = [[0] * len(loads) for hand in hands]
    for day, load in enumerate(loads):
        for deed in range(load):
            if not add_deed(table, hands, day):
                return ("many", too_many_days(loads, hands))
    return ("shared", table)

"""The desk, which answers lines with texts (points 30 to 32)."""

from curdcellar.cellar import Cellar
from curdcellar.errors import BadLine, BadName, BadNumber, Gone, Mouldy, Taken, TooMuch, Unknown, WrongRoom
from curdcellar.reckoner import HEADS, totals
from curdcellar.trace import recall
from curdcellar.words import whole, words

FORMS = {
    "room": "NAME DAMP WARMTH",
    "shelf": "NAME ROOM",
    "sort": "NAME KIND LEAST MOST LEAST MOST",
    "farm": "NAME",
    "brine": "NAME",
    "cloth": "NAME",
    "batch": "NAME",
    "wheel": "NAME BATCH SORT SHELF GRAMS",
    "turn": "WHEEL",
    "wash": "WHEEL BRINE CLOTH",
    "move": "WHEEL SHELF",
    "boil": "THING",
    "night": "TIMES",
    "taste": "WHEEL GRAMS",
    "cut": "WHEEL",
    "sell": "WEDGE",
    "weigh": "WHEEL",
    "today": "",
    "sums": "",
    "back": "NAME DAY",
    "way": "NAME DAY WEDGE",
}
# These words follow on those above, at least once and at most so many times.
AGAIN = {
    "sort": ("ROOM LEAST MOST", 3),
    "batch": ("FARM GRAMS", 6),
    "cut": ("GRAMS", 8),
}
NUMBERS = ("DAMP", "WARMTH", "LEAST", "MOST", "GRAMS", "TIMES", "DAY")
KINDS = ("clean", "mouldy")


def grouped(told, size):
    return [tuple(told[start:start + size]) for start in range(0, len(told), size)]


def do_room(cellar, told):
    cellar.new_room(told[0], told[1], told[2])


def do_shelf(cellar, told):
    cellar.new_shelf(told[0], told[1])


def do_sort(cellar, told):
    cellar.new_sort(told[0], told[1] == "mouldy", (told[2], told[3]), (told[4], told[5]), grouped(told[6:], 3))


def do_farm(cellar, told):
    cellar.new_farm(told[0])


def do_brine(cellar, told):
    cellar.new_brine(told[0])


def do_cloth(cellar, told):
    cellar.new_cloth(told[0])


def do_batch(cellar, told):
    cellar.new_batch(told[0], grouped(told[1:], 2))


def do_wheel(cellar, told):
    cellar.new_wheel(told[0], told[1], told[2], told[3], told[4])


def do_turn(cellar, told):
    cellar.turn(told[0])


def do_wash(cellar, told):
    cellar.wash(told[0], told[1], told[2])


def do_move(cellar, told):
    cellar.move(told[0], told[1])


def do_boil(cellar, told):
    cellar.boil(told[0])


def do_night(cellar, told):
    cellar.night(told[0])


def do_taste(cellar, told):
    cellar.taste(told[0], told[1])


def do_cut(cellar, told):
    cellar.cut(told[0], told[1:])


def do_sell(cellar, told):
    cellar.sell(told[0])


def tell_weight(cellar, told):
    return str(cellar.weight(told[0]))


def tell_today(cellar, told):
    return str(cellar.today)


def tell_sums(cellar, told):
    return " ".join([f"{head} {grams}" for head, grams in zip(HEADS, totals(cellar.book()))])


def list_text(texts):
    return " ".join(texts) if texts else "none"


def tell_back(cellar, told):
    return list_text([wedge for wedge, way in recall(cellar.book(), told[0], told[1])])


def tell_way(cellar, told):
    ways = dict(recall(cellar.book(), told[0], told[1]))
    return list_text([f"{place}:{source}>{target}" for place, source, target in ways.get(told[2], [])])


ACTS = {
    "room": do_room,
    "shelf": do_shelf,
    "sort": do_sort,
    "farm": do_farm,
    "brine": do_brine,
    "cloth": do_cloth,
    "batch": do_batch,
    "wheel": do_wheel,
    "turn": do_turn,
    "wash": do_wash,
    "move": do_move,
    "boil": do_boil,
    "night": do_night,
    "taste": do_taste,
    "cut": do_cut,
    "sell": do_sell,
    "weigh": tell_weight,
    "today": tell_today,
    "sums": tell_sums,
    "back": tell_back,
    "way": tell_way,
}


def written_forms(key):
    slots = words(FORMS[key])
    if key not in AGAIN:
        return [slots]
    return [slots + words(AGAIN[key][0]) * times for times in range(1, AGAIN[key][1] + 1)]


def slots_of(key, many):
    for slots in written_forms(key):
        if len(slots) == many:
            return slots
    raise BadLine(f"{many} words behind {key}")


def check_kind(slot, word):
    if slot == "KIND" and word not in KINDS:
        raise BadLine(f"no kind: {word!r}")


def read_told(slots, texts):
    # A wrong kind is refused ahead of a wrong number, wherever they stand in the line.
    for slot, word in zip(slots, texts):
        check_kind(slot, word)
    return [whole(word) if slot in NUMBERS else word for slot, word in zip(slots, texts)]


def act_on(cellar, line):
    texts = words(line)
    if not texts or texts[0] not in FORMS:
        raise BadLine(f"no key: {line!r}")
    act = ACTS[texts[0]]
    told = read_told(slots_of(texts[0], len(texts) - 1), texts[1:])
    answered = act(cellar, told)
    return "ok" if answered is None else answered


def answer_to(cellar, line):
    try:
        return act_on(cellar, line)
    except BadLine:
        return "refused: line"
    except BadName:
        return "refused: name"
    except Taken:
        return "refused: taken"
    except Unknown:
        return "refused: unknown"
    except BadNumber:
        return "refused: number"
    except Gone:
        return "refused: gone"
    except WrongRoom:
        return "refused: room"
    except Mouldy:
        return "refused: mouldy"
    except TooMuch:
        return "refused: much"


class Desk:
    def __init__(self):
        self.cellar = Cellar()

    def answer(self, line):
        return answer_to(self.cellar, line)


def answers(lines):
    desk = Desk()
    return [desk.answer(line) for line in lines]

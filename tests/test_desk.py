"""Points 30 to 32: the desk."""

import unittest

from books import plain_recall, way_fault
from cellars import picture
from curdcellar.cellar import Cellar
from curdcellar.desk import Desk, answers
from curdcellar.reckoner import HEADS, totals
from curdcellar.trace import recall

SETUP = """
room r1 90 10
room r2 80 20
room r3 50 40
shelf s1 r1
shelf s2 r2
shelf s3 r3
sort gouda clean 1 3 2 5 r1 1 10 r2 2 20
sort blue mouldy 1 4 2 6 r1 1 60
farm hill
farm dale
brine salt
cloth linen
batch milk hill 20000 dale 10000
wheel g1 milk gouda s1 8000
wheel b1 milk blue s1 8000
wheel old milk gouda s1 4000
cut old 1000 2000
sell old/1
""".strip().split("\n")

# A line that is done or answered behind the setup, for each key.
RIGHT = (
    "room r9 100 0", "shelf s9 r1", "sort brie clean 1 2 3 4 r1 5 6", "farm f9", "brine b9", "cloth c9",
    "batch m9 hill 7", "wheel w9 milk gouda s1 100", "turn g1", "wash g1 salt linen", "move g1 s2", "boil salt",
    "night 1", "taste g1 5", "cut g1 7", "sell old/2", "weigh g1", "today", "sums", "back hill 0", "way hill 0 old/1",
)
DEEDS = RIGHT[:16]

# For each key its words with a number sign where a number stands.
NUMBERED = (
    "room r9 # 5", "room r9 5 #", "sort brie clean # 2 3 4 r1 5 6", "sort brie clean 1 # 3 4 r1 5 6",
    "sort brie clean 1 2 # 4 r1 5 6", "sort brie clean 1 2 3 # r1 5 6", "sort brie mouldy 1 2 3 4 r1 # 6",
    "sort brie clean 1 2 3 4 r1 5 #", "sort brie clean 1 2 3 4 r1 5 6 r2 # 6", "sort brie clean 1 2 3 4 r1 5 6 r2 5 #",
    "sort brie clean 1 2 3 4 r1 5 6 r2 5 6 r3 # 6", "sort brie clean 1 2 3 4 r1 5 6 r2 5 6 r3 5 #",
    "batch m9 hill #", "batch m9 hill 5 dale #", "batch m9 hill # dale 5", "batch m9" + " hill 5" * 5 + " dale #",
    "wheel w9 milk gouda s1 #", "night #", "taste g1 #", "cut g1 #", "cut g1 # 5", "cut g1 5 5 5 5 5 5 5 #",
    "back hill #", "way hill # old/1",
)

WRONG_NUMBERS = ("x", "-1", "+1", "1.0", "1_0", "12345678", "00000001", "1x", "0x1", "~", "one", "''")


def set_up():
    desk = Desk()
    for line in SETUP:
        assert desk.answer(line) == "ok", line
    return desk


class DeskChecks(unittest.TestCase):
    def refused(self, desk, line, word):
        with self.subTest(line=line):
            before = picture(desk)
            self.assertEqual(desk.answer(line), "refused: " + word)
            self.assertEqual(picture(desk), before)

    def told(self, desk, line, text):
        with self.subTest(line=line):
            before = picture(desk)
            self.assertEqual(desk.answer(line), text)
            self.assertEqual(picture(desk), before)


class Deeds(DeskChecks):
    def test_new_desk(self):
        desk = Desk()
        self.assertIs(type(desk.cellar), Cellar)
        self.assertEqual((desk.cellar.today, desk.cellar.book()), (0, []))

    def test_each_deed_is_done_as_the_cellar_does_it(self):
        calls = (
            ("new_room", "r9", 100, 0), ("new_shelf", "s9", "r1"),
            ("new_sort", "brie", False, (1, 2), (3, 4), [("r1", 5, 6)]), ("new_farm", "f9"), ("new_brine", "b9"),
            ("new_cloth", "c9"), ("new_batch", "m9", [("hill", 7)]), ("new_wheel", "w9", "milk", "gouda", "s1", 100),
            ("turn", "g1"), ("wash", "g1", "salt", "linen"), ("move", "g1", "s2"), ("boil", "salt"), ("night", 1),
            ("taste", "g1", 5), ("cut", "g1", [7]), ("sell", "old/2"),
        )
        for line, call in zip(DEEDS, calls, strict=True):
            with self.subTest(line=line):
                desk, other = set_up(), set_up()
                before = picture(desk.cellar)
                self.assertEqual(desk.answer(line), "ok")
                getattr(other.cellar, call[0])(*call[1:])
                self.assertEqual(picture(desk.cellar), picture(other.cellar))
                self.assertNotEqual(picture(desk.cellar), before)

    def test_kind(self):
        for kind, mouldy in (("clean", False), ("mouldy", True)):
            desk, cellar = set_up(), set_up().cellar
            self.assertEqual(desk.answer(f"sort x {kind} 1 2 3 4 r2 5 6 r3 7 8 r1 9 10"), "ok")
            cellar.new_sort("x", mouldy, (1, 2), (3, 4), [("r2", 5, 6), ("r3", 7, 8), ("r1", 9, 10)])
            self.assertEqual(picture(desk.cellar), picture(cellar))

    def test_sort_with_so_many_rooms(self):
        for many, answer in ((0, "refused: line"), (1, "ok"), (2, "ok"), (3, "ok"), (4, "refused: line"),
                             (6, "refused: line")):
            desk = set_up()
            desk.answer("room r4 50 20")
            groups = [f" r{number} 5 6" for number in (1, 2, 3, 4, 5, 6)]
            with self.subTest(many=many):
                self.assertEqual(desk.answer("sort brie clean 1 2 3 4" + "".join(groups[:many])), answer)

    def test_batch_with_so_many_parts(self):
        for many, answer in ((0, "refused: line"), (1, "ok"), (2, "ok"), (5, "ok"), (6, "ok"), (7, "refused: line"),
                             (12, "refused: line")):
            desk = set_up()
            with self.subTest(many=many):
                self.assertEqual(desk.answer("batch m9" + " hill 5" * many), answer)
                if answer == "ok":
                    self.assertEqual(desk.cellar.book()[-1], (0, "batch", "m9", (("hill", 5),) * many))

    def test_cut_to_so_many_parts(self):
        for many, answer in ((0, "refused: line"), (1, "ok"), (2, "ok"), (7, "ok"), (8, "ok"), (9, "refused: line"),
                             (16, "refused: line")):
            desk = set_up()
            with self.subTest(many=many):
                self.assertEqual(desk.answer("cut g1" + " 5" * many), answer)
                if answer == "ok":
                    self.assertEqual(desk.cellar.book()[-1], (0, "cut", "g1", (5,) * many, 8000 - 5 * many))

    def test_parts_keep_their_order(self):
        desk = set_up()
        desk.answer("batch m9 hill 5 dale 6 hill 7")
        self.assertEqual(desk.cellar.book()[-1], (0, "batch", "m9", (("hill", 5), ("dale", 6), ("hill", 7))))
        desk.answer("cut g1 5 7 6")
        self.assertEqual(desk.cellar.book()[-1], (0, "cut", "g1", (5, 7, 6), 7982))

    def test_noughts_in_front(self):
        desk = set_up()
        self.assertEqual(desk.answer("taste g1 0000005"), "ok")
        self.assertEqual(desk.cellar.book()[-1], (0, "taste", "g1", 5))
        self.assertEqual(desk.answer("night 002"), "ok")
        self.assertEqual(desk.cellar.today, 2)


class Lines(DeskChecks):
    def test_no_words(self):
        desk = set_up()
        for line in ("", " ", "     ", " " * 200):
            self.refused(desk, line, "line")

    def test_unknown_key(self):
        desk = set_up()
        for line in ("x", "Today", "TODAY", "todays", "toda", "weight g1", "rooms", "5", "ok", "refused:", "task g1",
                     "new_room r9 5 5", "new_farm f9", "book", "answer", "NAME", "today,", "__init__", "cellar"):
            self.refused(desk, line, "line")

    def test_one_word_too_few_and_one_too_many(self):
        self.assertEqual(len({line.split()[0] for line in RIGHT}), 21)
        for line in RIGHT:
            desk = set_up()
            fewer = line.split()[:-1]
            if fewer:
                self.refused(desk, " ".join(fewer), "line")
                self.refused(desk, fewer[0] if len(fewer) > 1 else fewer[0] + " a b c", "line")
            if line != "cut g1 7":
                self.refused(desk, line + " 5", "line")
            self.assertFalse(desk.answer(line).startswith("refused"), line)

    def test_one_word_too_few_or_too_many_in_the_last_group(self):
        desk = set_up()
        for line in (
            "sort brie clean 1 2 3 4 r1", "sort brie clean 1 2 3 4 r1 5", "sort brie clean 1 2 3 4 r1 5 6 r2",
            "sort brie clean 1 2 3 4 r1 5 6 r2 5", "sort brie clean 1 2 3 4 r1 5 6 r2 5 6 r3",
            "sort brie clean 1 2 3 4 r1 5 6 r2 5 6 r3 5", "sort brie clean 1 2 3 4 r1 5 6 r2 5 6 r3 5 6 r1",
            "sort brie clean 1 2 3", "sort brie clean 1 2", "sort brie clean", "sort brie", "sort",
            "batch m9 hill", "batch m9 hill 5 dale", "batch m9 hill 5 hill 5 hill 5 hill 5 hill 5 hill",
            "batch m9 hill 5 hill 5 hill 5 hill 5 hill 5 hill 5 hill", "batch", "cut",
        ):
            self.refused(desk, line, "line")

    def test_wrong_kind(self):
        desk = set_up()
        for kind in ("Clean", "mouldly", "True", "mould", "0", "KIND", "cleanmouldy", "mouldy,clean", "r1"):
            self.refused(desk, f"sort brie {kind} 1 2 3 4 r1 5 6", "line")

    def test_blanks(self):
        for line in RIGHT:
            spaced = "   " + "    ".join(line.split()) + "  "
            with self.subTest(line=spaced):
                desk, other = set_up(), set_up()
                self.assertEqual(desk.answer(spaced), other.answer(line))
                self.assertEqual(picture(desk), picture(other))

    def test_line_goes_ahead_of_all_else(self):
        desk = set_up()
        for line in (
            "room R! x", "room R! x 5 6", "sort G! neither x x x x nowhere x x", "sort gouda neither 1 2 3 4 r1 5 6",
            "sort gouda Mouldy 99 98 0 0 nowhere 0 0", "sort brie neither 1 2 3 x r1 5 6", "batch milk hill x dale",
            "batch milk nobody", "cut old", "cut nobody x 1 1 1 1 1 1 1 1", "night x 1", "night 99 1", "taste nobody",
            "taste g1 x 1", "sell", "sell old/1 old/1", "wash b1 salt", "weigh old g1", "today 1", "sums 1", "back g1",
            "back g1 x 1", "way g1 x", "turn", "move g1", "move old s3 s3", "wheel g1 milk gouda s1", "farm hill hill",
        ):
            self.refused(desk, line, "line")

    def test_words_that_are_no_numbers(self):
        desk = set_up()
        for line in NUMBERED:
            for word in WRONG_NUMBERS:
                self.refused(desk, line.replace("#", word), "number")

    def test_numbers_are_read_ahead_of_the_deeds_own_refusals(self):
        desk = set_up()
        desk.answer("wash b1 salt linen")
        for line in (
            "room R! x 5", "room hill 5 x", "room R! 200 x", "sort R! clean 1 2 3 4 nowhere 5 x",
            "sort gouda clean x 2 3 4 r1 5 6", "sort brie clean 9 8 7 6 r1 5 6 r1 5 x", "batch B! hill x",
            "batch milk nobody 5 hill x", "wheel W! milk gouda s1 x", "wheel g1 nobody gouda s3 x", "night x",
            "taste nobody x", "taste old x", "taste g1 9999999x", "cut nobody x", "cut old 5 x", "cut g1 9999999 x",
            "cut g1 0 x", "back nobody x", "way nobody x nobody",
        ):
            self.refused(desk, line, "number")

    def test_a_word_where_no_number_stands_is_not_read_as_one(self):
        desk = set_up()
        for line in ("farm 12345678", "brine 007", "room 5 5 5", "shelf 6 5", "sort 7 clean 1 2 3 4 5 6 7", "cloth 00",
                     "batch 8 007 5", "farm 9", "batch 10 9 5", "wheel 11 10 7 6 5", "turn 11", "cut 11 1"):
            with self.subTest(line=line):
                self.assertEqual(desk.answer(line), "refused: unknown" if line == "batch 8 007 5" else "ok")
        self.told(desk, "back 9 0", "11/1")
        self.told(desk, "back 09 0", "none")


class Refusals(DeskChecks):
    def test_each_refusal_by_its_word(self):
        desk = set_up()
        self.assertEqual(desk.answer("wash b1 salt linen"), "ok")
        for word, lines in (
            ("name", ("room R9 5 5", "shelf s-9 r1", "sort brie! clean 1 2 3 4 r1 5 6", "farm abcdefghijklm", "brine B",
                      "cloth c/1", "batch M hill 5", "wheel g_1 milk gouda s1 5", "farm old/2")),
            ("taken", ("room hill 5 5", "shelf s1 r1", "sort g1 clean 1 2 3 4 r1 5 6", "farm r1", "brine linen",
                       "cloth gouda", "batch old hill 5", "wheel milk milk gouda s1 5")),
            ("unknown", ("shelf s9 s1", "sort brie clean 1 2 3 4 r1 5 6 r9 5 6", "batch m9 hill 5 salt 5",
                         "wheel w9 hill gouda s1 5", "wheel w9 milk s1 s1 5", "wheel w9 milk gouda r1 5", "turn milk",
                         "wash nobody salt linen", "wash g1 linen linen", "wash g1 salt salt", "move s1 s1",
                         "move g1 r2",
                         "boil g1", "boil hill", "boil r1", "taste milk 5", "cut old/1 5", "sell old", "sell g1",
                         "sell old/3", "weigh milk", "weigh old/1", "weigh nobody")),
            ("number", ("room r9 101 5", "room r9 5 41", "sort brie clean 0 2 3 4 r1 5 6",
                        "sort brie clean 2 1 3 4 r1 5 6",
                        "sort brie clean 1 2 3 61 r1 5 6", "sort brie clean 1 2 4 3 r1 5 6", "batch m9 hill 0",
                        "sort brie clean 1 2 3 4 r1 0 6", "sort brie clean 1 2 3 4 r1 5 6 r2 7 6",
                        "batch m9 hill 1000001",
                        "wheel w9 milk gouda s1 0", "wheel w9 milk gouda s1 1000001", "night 0", "night 31",
                        "taste g1 0",
                        "taste g1 1000001", "cut g1 0", "cut g1 5 1000001")),
            ("gone", ("turn old", "wash old salt linen", "move old s2", "taste old 5", "cut old 5", "sell old/1",
                      "weigh old")),
            ("room", ("sort brie clean 1 2 3 4 r1 5 6 r1 5 6", "sort brie clean 1 2 3 4 r1 5 6 r2 5 6 r1 5 6",
                      "wheel w9 milk gouda s2 5", "move g1 s3", "move b1 s2")),
            ("mouldy", ("wash g1 salt linen",)),
            ("much", ("wheel w9 milk gouda s1 10001", "taste g1 8001", "cut g1 8001", "cut g1 4000 4001")),
        ):
            for line in lines:
                self.refused(desk, line, word)

    def test_the_first_of_several(self):
        desk = set_up()
        desk.answer("wash b1 salt linen")
        for line, word in (
            ("room R! 101 41", "name"), ("shelf S! nowhere", "name"), ("sort S! clean 0 0 0 0 nowhere 0 0", "name"),
            ("batch B! nobody 0", "name"), ("wheel W! nobody nobody nobody 0", "name"), ("farm old/1", "name"),
            ("room hill 101 41", "taken"), ("shelf hill nowhere", "taken"), ("wheel g1 nobody gouda s3 0", "taken"),
            ("sort hill clean 0 0 0 0 nowhere 0 0", "taken"), ("batch hill nobody 0", "taken"),
            ("sort brie clean 0 0 0 0 r1 5 6 r1 5 6 nowhere 5 6", "unknown"), ("batch m9 hill 0 nobody 5", "unknown"),
            ("wheel w9 milk gouda nowhere 0", "unknown"), ("wheel w9 nobody gouda s3 0", "unknown"),
            ("wash old linen salt", "unknown"), ("move old nowhere", "unknown"), ("taste nobody 0", "unknown"),
            ("cut nobody 0", "unknown"), ("sort brie clean 0 2 3 4 r1 5 6 r1 5 6", "number"),
            ("wheel w9 milk gouda s3 1000001", "number"), ("wheel w9 milk gouda s3 0", "number"),
            ("taste old 0", "number"),
            ("cut old 5 0", "number"), ("cut g1 8000 0", "number"), ("taste old 999999", "gone"),
            ("cut old 999999", "gone"),
            ("move old s3", "gone"), ("wash old salt linen", "gone"), ("wheel w9 milk gouda s3 999999", "room"),
        ):
            self.refused(desk, line, word)


class Questions(DeskChecks):
    def test_weigh_and_today(self):
        desk = set_up()
        self.told(desk, "weigh g1", "8000")
        self.told(desk, "today", "0")
        desk.answer("night 2")
        self.told(desk, "weigh g1", "7985")
        self.told(desk, "today", "2")
        desk.answer("taste g1 7985")
        self.told(desk, "weigh g1", "0")
        self.assertEqual(Desk().answer("today"), "0")

    def test_sums(self):
        nothing = "milk 0 parted 0 unparted 0 lost 0 tasted 0 wedged 0 crumbs 0 left 0 sold 0 kept 0"
        self.assertEqual(Desk().answer("sums"), nothing)
        desk = set_up()
        self.told(desk, "sums", "milk 30000 parted 20000 unparted 10000 lost 0 tasted 0 wedged 3000 crumbs 1000 "
                                "left 16000 sold 1000 kept 2000")
        desk.answer("night 1")
        desk.answer("taste g1 7")
        self.told(desk, "sums", "milk 30000 parted 20000 unparted 10000 lost 16 tasted 7 wedged 3000 crumbs 1000 "
                                "left 15977 sold 1000 kept 2000")

    def test_back(self):
        desk = set_up()
        self.told(desk, "back hill 0", "old/1 old/2")
        self.told(desk, "back old 0000000", "old/1 old/2")
        self.told(desk, "back g1 0", "none")
        self.told(desk, "back hill 1", "none")
        self.told(desk, "back hill 9999999", "none")
        desk.answer("night 1")
        desk.answer("cut b1 1 1 1")
        self.told(desk, "back g1 0", "b1/1 b1/2 b1/3")
        self.told(desk, "back hill 0", "old/1 old/2 b1/1 b1/2 b1/3")
        self.told(desk, "back b1 1", "b1/1 b1/2 b1/3")

    def test_back_of_a_name_that_is_no_such_thing(self):
        desk = set_up()
        for name in ("nobody", "r1", "gouda", "old/1", "No!", "x" * 40, "/", "today", "5"):
            self.told(desk, f"back {name} 0", "none")
            self.told(desk, f"way {name} 0 old/1", "none")
        self.told(Desk(), "back nobody 0", "none")

    def test_way(self):
        desk = set_up()
        self.told(desk, "way old 0 old/2", "4:old>old/2")
        self.told(desk, "way milk 0 old/1", "3:milk>old 4:old>old/1")
        self.told(desk, "way hill 0 old/1", "0:hill>milk 3:milk>old 4:old>old/1")
        for line in ("way hill 1 old/1", "way hill 0 old/3", "way hill 0 old", "way hill 0 nobody", "way g1 0 old/1",
                     "way hill 9999999 old/1", "way salt 0 old/1"):
            self.told(desk, line, "none")
        desk.answer("night 1")
        desk.answer("cut b1 10")
        self.told(desk, "way g1 0 b1/1", "6:g1>b1 7:b1>b1/1")

    def test_questions_change_nothing(self):
        desk = set_up()
        for line in RIGHT[16:]:
            self.told(desk, line, desk.answer(line))


class DesksAndLines(DeskChecks):
    def test_two_desks_share_nothing(self):
        first, second = Desk(), Desk()
        self.assertIsNot(first.cellar, second.cellar)
        before = picture(second)
        for line in SETUP + list(RIGHT):
            first.answer(line)
        self.assertEqual(picture(second), before)
        self.assertEqual(second.answer("farm hill"), "ok")

    def test_the_cellar_is_the_desks_own(self):
        desk = set_up()
        desk.cellar.night(3)
        self.assertEqual(desk.answer("today"), "3")
        desk.answer("taste g1 1")
        self.assertEqual(desk.cellar.book()[-1], (3, "taste", "g1", 1))

    def test_answers(self):
        lines = SETUP + list(RIGHT) + ["", "x", "turn g1", "back hill 0", "sums", "weigh b1"]
        given = list(lines)
        desk = Desk()
        right = [desk.answer(line) for line in lines]
        told = answers(lines)
        self.assertIs(type(told), list)
        self.assertEqual(told, right)
        self.assertEqual(lines, given)
        self.assertEqual(answers(lines), right)
        told.clear()
        self.assertEqual(answers(lines), right)

    def test_answers_to_no_lines(self):
        self.assertEqual(answers([]), [])
        answers([]).append("x")
        self.assertEqual(answers([]), [])

    def test_answers_come_in_order(self):
        self.assertEqual(answers(["today", "night 2", "today", "x", "night 3", "today"]),
                         ["0", "ok", "2", "refused: line", "ok", "5"])

    def test_the_book_of_the_desk_is_traced_and_reckoned(self):
        desk = set_up()
        for line in ("wash g1 salt linen", "night 2", "wash b1 salt linen", "cut b1 10 20 30", "move g1 s2", "night 1",
                     "cut g1 100 200", "sell g1/2"):
            self.assertEqual(desk.answer(line), "ok")
        book = desk.cellar.book()
        for name in ("hill", "milk", "g1", "b1", "salt", "linen", "s1", "s2", "nobody"):
            for day in range(5):
                wedges = plain_recall(book, name, day)
                self.told(desk, f"back {name} {day}", " ".join(wedges) or "none")
                for wedge, way in recall(book, name, day):
                    text = desk.answer(f"way {name} {day} {wedge}")
                    steps = [step.replace(":", ">").split(">") for step in text.split(" ")]
                    steps = [(int(place), source, target) for place, source, target in steps]
                    self.assertIsNone(way_fault(book, name, day, wedge, steps), text)
        pairs = [f"{head} {number}" for head, number in zip(HEADS, totals(book), strict=True)]
        self.told(desk, "sums", " ".join(pairs))


if __name__ == "__main__":
    unittest.main()

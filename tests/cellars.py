"""What the tests of the cellar share."""

from curdcellar.cellar import Cellar

WIDE = (1, 60)


def furnished():
    """Rooms r1 to r3 with the shelves s1, t1 in r1, s2, t2 in r2 and so on; the sorts blue (mouldy) and gouda."""
    cellar = Cellar()
    for number in ("1", "2", "3"):
        cellar.new_room("r" + number, 90, 10)
        cellar.new_shelf("s" + number, "r" + number)
        cellar.new_shelf("t" + number, "r" + number)
    route = [("r1", 1, 10), ("r2", 2, 20), ("r3", 3, 30)]
    cellar.new_sort("gouda", False, (1, 3), (2, 5), route)
    cellar.new_sort("blue", True, (1, 4), (2, 6), route[:2])
    cellar.new_farm("hill")
    cellar.new_farm("dale")
    for name in ("brine1", "brine2"):
        cellar.new_brine(name)
    for name in ("cloth1", "cloth2"):
        cellar.new_cloth(name)
    cellar.new_batch("milk", [("hill", 500000), ("dale", 500000)])
    return cellar


def with_wheels():
    """The same with the clean wheels g1, g2 and the mouldy b1, b2, of 10000 grams each, on s1."""
    cellar = furnished()
    for name, sort in (("g1", "gouda"), ("g2", "gouda"), ("b1", "blue"), ("b2", "blue")):
        cellar.new_wheel(name, "milk", sort, "s1", 10000)
    return cellar


def picture(value):
    """All that hangs on a value, to be compared later."""
    if isinstance(value, (list, tuple)):
        return (type(value).__name__, [picture(part) for part in value])
    if isinstance(value, dict):
        return ("dict", [(picture(key), picture(part)) for key, part in value.items()])
    if hasattr(value, "__dict__"):
        return (type(value).__name__, picture(vars(value)))
    return value


class CellarChecks:
    """For a test case: a deed is done or refused."""

    def refused(self, error, cellar, deed, *told):
        with self.subTest(deed=deed, told=told):
            before, given = picture(cellar), picture(told)
            with self.assertRaises(error) as raised:
                getattr(cellar, deed)(*told)
            self.assertIs(type(raised.exception), error)
            self.assertEqual(picture(cellar), before)
            self.assertEqual(picture(told), given)

    def done(self, cellar, deed, *told):
        with self.subTest(deed=deed, told=told):
            given = picture(told)
            self.assertIsNone(getattr(cellar, deed)(*told))
            self.assertEqual(picture(told), given)

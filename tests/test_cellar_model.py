"""Points 14 to 22 against a plain model that names all refusals that are due and takes the first of point 15."""

import random
import unittest

from curdcellar import errors
from curdcellar.cellar import Cellar
from model import DEEDS, ORDER, SETUP, Draw, Model


class AgainstTheModel(unittest.TestCase):
    def setUp(self):
        self.seen = {}

    def outcome(self, call, told):
        try:
            self.assertIsNone(call(*told))
        except errors.CellarError as error:
            return type(error).__name__
        return "done"

    def step(self, cellar, model, deed, told):
        word = model.asked(deed, told)
        self.assertEqual(self.outcome(getattr(cellar, deed), told), word, (deed, told))
        self.seen[word] = self.seen.get(word, 0) + 1

    def compare(self, cellar, model):
        self.assertEqual((cellar.today, cellar.book()), (model.today, model.entries))
        tools = [[name for name, thing in model.things.items() if thing["kind"] == kind] for kind in ("brine", "cloth")]
        for name, thing in model.things.items():
            if thing["kind"] == "wheel" and not thing.get("gone"):
                self.assertEqual(cellar.weight(name), thing["grams"])
                if all(tools):
                    task = cellar.task([name], 2, [([1, 1], 1)], tools[0][-1], tools[1][-1])
                    job = task.jobs[0]
                    self.assertEqual(
                        (job.mouldy, job.turn_gap, job.wash_gap, job.stays, job.turned, job.washed, job.lain),
                        (thing["sort"]["mouldy"], thing["sort"]["turn"], thing["sort"]["wash"],
                         [(least, most) for room, least, most in model.rooms_from(thing)],
                         model.today - thing["turned"], model.today - thing["washed"], model.today - thing["moved"]))
                    self.assertIs(task.mouldy, any(model.things[names[-1]]["mould"] for names in tools))

    def test_drawn_deeds(self):
        for seed in range(60):
            with self.subTest(seed=seed):
                chance = random.Random(seed)
                cellar, model = Cellar(), Model()
                draw = Draw(chance, model)
                for number in range(400):
                    deed = SETUP[number // 2] if number < 2 * len(SETUP) else chance.choice(DEEDS)
                    self.step(cellar, model, deed, draw.told(deed))
                    if number % 40 == 39:
                        self.compare(cellar, model)
        self.assertGreater(min(self.seen.get(word, 0) for word in ORDER + ("done",)), 50, self.seen)


if __name__ == "__main__":
    unittest.main()

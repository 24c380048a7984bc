"""All points together: many turns of deeds, each answer held against the slow model's, and some large shelves."""

import random
import time
import unittest

from keptrow.errors import Unlike
from keptrow.shelf import Shelf
from keptrow.walks import walked
from helpers import Case, everything, put, told
from shelf_model import Model, values_one_by_one

WORDS = ["a", "a.b", "ab", "b", "b.", "c"]
HEADS = ["", "a", "a.", "ab", "b", "b.", "c", "d"]
WRONG = [True, False, None, -1, 99, "", "A", "abcdefghijklm", 10**30 + 1, [], ("a",)]


def some_turn(luck, states):
    """A method with what it is handed, mostly good and of an open dealing, sometimes wrong."""
    open_ones = [number for number, state in enumerate(states) if state == "open"]
    number = luck.randrange(len(states)) if states else 0
    if open_ones and luck.random() < 0.9:
        number = luck.choice(open_ones)
    things = {
        "begin": [], "sweep": [], "keep": [number], "drop": [number], "made": [number],
        "read": [number, luck.choice(WORDS)],
        "under": [number, luck.choice(HEADS)],
        "write": [number, luck.choice(WORDS), luck.choice([None, 0, 1, 2, 3, -4, 10**30])],
        "back": [number, luck.choice([0, 0, 1, 1, 2, 3, 4])],
    }
    weights = {
        "begin": 8 if len(open_ones) < 4 else 0, "sweep": 1, "keep": 2, "drop": 0.3, "made": 0.5,
        "read": 9, "under": 2, "write": 8, "back": 1.5,
    }
    method = luck.choices(list(weights), list(weights.values()))[0]
    handed = things[method]
    if handed and luck.random() < 0.04:
        handed[luck.randrange(len(handed))] = luck.choice(WRONG)
    return method, handed


class Turns(Case):
    def run_turns(self, seed, many):
        """Do the turns on a shelf, on one that is never swept, and on the model; tell what was told or refused."""
        luck = random.Random(seed)
        shelf, unswept, model = Shelf(), Shelf(), Model()
        found = []
        for at in range(many):
            method, things = some_turn(luck, model.states)
            answer = told(getattr(shelf, method), *things)
            wanted = told(getattr(model, method), *things)
            self.assert_same(answer, wanted)
            if method != "sweep":
                self.assert_same(told(getattr(unswept, method), *things), wanted)
            found.append((method, answer[0] if answer[0] == "told" else answer[1].__name__))
            self.assert_same(shelf.order(), model.order())
            if at % 20 == 19:
                self.assert_all_the_same(shelf, unswept, model)
        self.assert_one_by_one(shelf, model)
        return found

    def assert_all_the_same(self, shelf, unswept, model):
        wanted = everything(model, WORDS)
        self.assert_same(everything(shelf, WORDS), wanted)
        wanted["versions"] = [model.all_versions(name) for name in WORDS]
        self.assert_same(everything(unswept, WORDS), wanted)

    def assert_one_by_one(self, shelf, model):
        left = values_one_by_one(model)
        self.assertIsNotNone(left)
        wanted = [(name, left[name]) for name in sorted(left) if left[name] is not None]
        self.assert_same([(name, shelf.value(name)) for name in WORDS if shelf.value(name) is not None], wanted)
        self.assert_same(walked([shelf.deeds(number) for number in shelf.order()]), wanted)

    def test_of_a_hundred_deeds(self):
        found = {}
        for seed in range(150):
            for pair in self.run_turns(seed, 100):
                found[pair] = found.get(pair, 0) + 1
        # The turns are of use only if they come upon all refusals.
        for pair in [
            ("keep", "Crossed"), ("keep", "told"), ("keep", "Over"), ("keep", "NoDealing"), ("write", "Taken"),
            ("write", "Late"), ("write", "NoValue"), ("write", "NoName"), ("back", "NoMark"), ("back", "told"),
            ("read", "told"), ("read", "NoName"), ("under", "told"), ("under", "NoName"), ("sweep", "told"),
        ]:
            self.assertGreater(found.get(pair, 0), 10, pair)

    def test_longer_ones(self):
        for seed in range(8):
            self.run_turns(1000 + seed, 300)

    def test_rows_that_were_spoiled(self):
        """Walking tells what is left or refuses, as doing the deeds one by one by the model does."""
        luck = random.Random(7)
        refused = 0
        for seed in range(60):
            model = Model()
            for _ in range(40):
                method, things = some_turn(luck, model.states)
                told(getattr(model, method), *things)
            luck.shuffle(model.row)
            left = values_one_by_one(model)
            rows = [model.deeds_of[number] for number in model.row]
            if left is None:
                refused += 1
                self.assertEqual(told(walked, rows), ("refused", Unlike))
            else:
                self.assert_same(walked(rows), [(name, left[name]) for name in sorted(left) if left[name] is not None])
        self.assertGreater(refused, 5)
        self.assertLess(refused, 55)


class Many(Case):
    def setUp(self):
        self.begun_at = time.monotonic()

    def tearDown(self):
        # Seconds, even on a slow machine.
        self.assertLess(time.monotonic() - self.begun_at, 20)

    def test_many_names_in_one_dealing(self):
        shelf = Shelf()
        number = shelf.begin()
        names = ["n." + str(at) for at in range(3000)]
        for at, name in enumerate(names):
            shelf.write(number, name, at)
        self.assert_same(shelf.made(number), 3000)
        self.assert_same(shelf.keep(number), 0)
        wanted = sorted([(name, at) for at, name in enumerate(names)])
        reader = shelf.begin()
        self.assert_same(shelf.under(reader, ""), wanted)
        self.assert_same(shelf.under(reader, "n.29"), [pair for pair in wanted if pair[0].startswith("n.29")])
        self.assert_same(shelf.keep(reader), 1)
        self.assert_same(walked([shelf.deeds(number), shelf.deeds(reader)]), wanted)

    def test_many_dealings_upon_one_name(self):
        shelf = Shelf()
        readers = []
        for at in range(800):
            readers.append(shelf.begin())
            put(shelf, a=at)
        self.assert_same(len(shelf.versions("a")), 800)
        self.assert_same([shelf.read(number, "a") for number in readers], [None] + list(range(799)))
        self.assert_same(shelf.sweep(), 0)
        for at, number in enumerate(readers):
            self.assert_same(shelf.keep(number), 2 * at)
        self.assert_same(shelf.order(), list(range(1600)))
        self.assert_same(shelf.sweep(), 799)
        self.assert_same(walked([shelf.deeds(number) for number in shelf.order()]), [("a", 799)])

    def test_many_dealings_side_by_side(self):
        shelf = Shelf()
        numbers = [shelf.begin() for _ in range(400)]
        for number in numbers:
            shelf.read(number, "n" + str(number + 1))
            shelf.write(number, "n" + str(number), number)
        # Each one looked at what the next one writes.
        for number in numbers[::2] + numbers[1::2]:
            shelf.keep(number)
        order = shelf.order()
        self.assertEqual(sorted(order), numbers)
        place = {number: at for at, number in enumerate(order)}
        for number in numbers[1:]:
            self.assertLess(place[number - 1], place[number])
        self.assert_same(shelf.moment(), 400)
        left = walked([shelf.deeds(number) for number in order])
        self.assert_same(left, sorted([("n" + str(number), number) for number in numbers]))

    def test_many_deeds_in_one_dealing(self):
        shelf = Shelf()
        number = shelf.begin()
        for at in range(5000):
            shelf.write(number, "n" + str(at % 300), at)
            shelf.read(number, "n" + str(at % 301))
        for many in range(5000, -1, -1):
            shelf.back(number, many)
        self.assert_same(shelf.made(number), 0)
        self.assert_same(len(shelf.deeds(number)), 15001)
        self.assert_same(walked([shelf.deeds(number)]), [])
        self.assert_same(shelf.keep(number), 0)

    def test_many_that_read_heads(self):
        shelf = Shelf()
        for at in range(300):
            number = shelf.begin()
            shelf.under(number, "")
            shelf.under(number, "n" + str(at % 10))
            shelf.write(number, "n" + str(at), at)
            self.assert_same(shelf.keep(number), at)
        shelf.sweep()
        left = walked([shelf.deeds(number) for number in shelf.order()])
        self.assert_same(left, sorted([("n" + str(at), at) for at in range(300)]))


if __name__ == "__main__":
    unittest.main()

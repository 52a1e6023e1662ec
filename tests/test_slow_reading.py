"""All calls that ask, against a second and slow reading of the document, on many worlds."""

import random
import unittest

from tests import slow_reading
from tests.support import advance, after, barred, first, genus, history, lift, place, replaced, revive, sink, species
from tests.support import status, told, unite, what_if, work

LAST_EARLY_DAY = 95327
HOW_MANY_DAYS = 10
HOW_MANY_SPECIES = 9
TEXTS = ("Aus", "Bus", "Cus")
EPITHETS = (("niger", "nigra", "nigrum"), ("niger", "nigra", "nigra"), ("nigra", "nigra", "nigra"),
            ("niger", "atra", "nigrum"))
CALLS_OF_KINDS = {1: place, 2: sink, 3: revive, 4: status, 5: advance, 6: replaced, 7: lift}
ONE_NAME_KINDS = (3, 7)

ALL_KINDS = (1, 2, 3, 4, 5, 6, 7)
MOVES_AND_REPLACEMENTS = (1, 1, 1, 1, 2, 6, 6, 6, 6, 7)


def mixed_keys(source, how_many):
    return source.sample(range(1, 5 * how_many + 5), how_many)


def some_names(source, kind, genera, species):
    """The a and b of an act; few genera are moved to, and few species names replaced, so that these meet there."""
    if kind == 1:
        return source.choice(species[:5]), source.choice(genera[:2])
    if kind == 6:
        return source.sample(species[:3], 2)
    if kind == 2:
        return source.sample(genera, 2)
    if kind == 3:
        return source.choice(genera), 0
    if kind == 4:
        return source.choice(genera + species), source.randrange(3)
    if kind == 5:
        return source.choice(genera + species), source.randrange(HOW_MANY_DAYS + 2)
    return source.choice(species), 0


class SomeWorld:
    """A world with little choice of days, texts and genders, so that much in it is alike."""

    def __init__(self, seed, first_day=0, kinds=ALL_KINDS, how_many_genera=5):
        self.source = random.Random(seed)
        self.works = {key: first_day + self.source.randrange(HOW_MANY_DAYS) for key in mixed_keys(self.source, 9)}
        keys = mixed_keys(self.source, how_many_genera + HOW_MANY_SPECIES)
        self.genera = keys[:how_many_genera]
        self.species = keys[how_many_genera:]
        self.last_day = first_day + HOW_MANY_DAYS + 1
        act_keys = mixed_keys(self.source, self.source.randrange(30))
        acts = [self.some_act(key, self.source.choice(kinds)) for key in act_keys]
        genera = {key: self.some_genus() for key in self.genera}
        self.world = slow_reading.World(self.works, genera, {key: self.some_species() for key in self.species}, acts)

    def work_and_page(self):
        # Names come out in the earlier works alone, so that acts have something to change.
        early = sorted(self.works, key=self.works.get)[:6]
        return (self.source.choice(early), self.source.randrange(1, 3))

    def some_genus(self):
        return self.work_and_page() + (self.source.randrange(3), self.source.choice(TEXTS))

    def some_species(self):
        return self.work_and_page() + (self.source.choice(self.genera), self.source.choice(EPITHETS))

    def some_act(self, key, kind):
        told_in = self.source.choice(list(self.works))
        a, b = some_names(self.source, kind, self.genera, self.species)
        return (self.works[told_in], key, kind, told_in, a, b)

    def calls_that_keep(self):
        calls = [work(key, day) for key, day in self.works.items()]
        calls += [genus(key, *name) for key, name in self.world.genera.items()]
        calls += [species(key, *name) for key, name in self.world.species.items()]
        for day, key, kind, told_in, a, b in self.source.sample(self.world.acts, len(self.world.acts)):
            named = [a] if kind in ONE_NAME_KINDS else [a, b]
            calls.append(CALLS_OF_KINDS[kind](key, told_in, *named))
        return calls

    def asked_at(self, d):
        """Calls of each sort about day d, each with what the slow reading answers."""
        world = self.world
        asked = []
        for number in range(10, 18):
            a = self.source.choice(self.genera + self.species)
            asked.append(([number, d, a], slow_reading.read_about_name(world, number, d, a)))
        for turn in range(3):
            a, g, b = self.source.choice(self.species), self.source.choice(self.genera), self.source.choice(self.genera)
            asked.append((what_if(d, a, g), slow_reading.read_what_if(world, d, a, g)))
            asked.append((unite(d, b, g), slow_reading.read_unite(world, d, b, g)))
        chosen = [self.source.choice(self.genera + self.species + [999]) for turn in range(self.source.randrange(5))]
        asked.append((first(d, chosen), slow_reading.read_first(world, d, chosen)))
        asked.append((barred(d), slow_reading.read_barred(world, d)))
        return asked

    def asked_over_all(self):
        asked = [(told(), slow_reading.read_told(self.world))]
        for a in self.source.sample(self.genera + self.species, 2):
            asked.append((history(a), slow_reading.read_history(self.world, a, self.last_day)))
        return asked


class SlowReadingTest(unittest.TestCase):

    def look_at(self, some, days):
        asked = some.asked_over_all() + [pair for d in days for pair in some.asked_at(d)]
        given = after(some.calls_that_keep(), *[call for call, read in asked])
        for answer, (call, read) in zip(given, asked):
            self.assertEqual(answer, read, call)

    def test_acts_of_all_kinds(self):
        for seed in range(50):
            with self.subTest(seed=seed):
                self.look_at(SomeWorld(seed), (3, 6, 9))

    def test_many_moves_and_replacements(self):
        for seed in range(100, 170):
            with self.subTest(seed=seed):
                self.look_at(SomeWorld(seed, kinds=MOVES_AND_REPLACEMENTS, how_many_genera=12), (5, 7, 8, 9))

    def test_round_the_day_when_replacements_stop_to_bar(self):
        for seed in range(200, 250):
            with self.subTest(seed=seed):
                some = SomeWorld(seed, LAST_EARLY_DAY - 6, MOVES_AND_REPLACEMENTS, how_many_genera=12)
                self.look_at(some, range(LAST_EARLY_DAY - 1, LAST_EARLY_DAY + 4))

    def test_genera_sunk_and_revived(self):
        for seed in range(300, 330):
            with self.subTest(seed=seed):
                self.look_at(SomeWorld(seed, kinds=(2, 2, 2, 2, 3)), (2, 5, 9))


if __name__ == "__main__":
    unittest.main()

"""value and best against the plain search, and against one another, over many small houses."""

import itertools
import random
import unittest

from asking import ask, at, best, value
from houses import house_by_chance, written
from plain_search import PlainHouse, facts_of, number_of

STATES_AT_ONCE = 6


def asked(facts, wants, may, acts):
    """What at, value and best answer in each state of a house."""
    told = {}
    states = list(itertools.product(range(2 ** facts), (0, 1)))
    for start in range(0, len(states), STATES_AT_ONCE):
        some = states[start:start + STATES_AT_ONCE]
        calls = written(facts, wants, may, acts)
        before = len(calls)
        for so, turn in some:
            calls += [at(so, turn), value(), best()]
        rows = ask(*calls)[before:]
        for k, state in enumerate(some):
            told[state] = rows[3 * k:3 * k + 3]
    return told


def searched(facts, wants, may, acts):
    plain = PlainHouse(facts, wants, may, acts)
    told = {}
    for so, turn in itertools.product(range(2 ** facts), (0, 1)):
        won = plain.won(facts_of(so), turn)
        told[so, turn] = [
            [0 if won is None else won + 1],
            plain.value(facts_of(so), turn),
            plain.best(facts_of(so), turn),
        ]
    return told


class AgainstPlainSearch(unittest.TestCase):
    def agree(self, house):
        self.assertEqual(asked(*house), searched(*house), house)

    def test_every_house_of_one_fact_with_two_acts_at_most(self):
        every = list(itertools.product((0, 1), repeat=5))
        rows = [[]] + [[one] for one in every] + [list(two) for two in itertools.product(every, repeat=2)]
        for acts in rows:
            for may in itertools.product((0, 1), repeat=2):
                self.agree((1, [1, 1], list(may), acts))

    def test_houses_by_chance(self):
        chance = random.Random(20)
        for number in range(1500):
            self.agree(house_by_chance(chance))


class MovesThatAreToldGiveWhatIsTold(unittest.TestCase):
    """The document's bold words: forced is forced, no sooner, and the best moves get there."""

    def held(self, house):
        told = asked(*house)
        plain = PlainHouse(*house)
        for (so, turn), (won, (who, count), row) in told.items():
            behind = {}
            for number, facts, other in plain.moves(facts_of(so), turn):
                behind[number] = tuple(told[number_of(facts), other][1])
            if not behind:
                self.assertEqual((count, row), (0, [-5]))
                continue
            self.assertEqual(row[1], len(behind))
            after = behind[row[0]]
            if who == 0:
                self.assertEqual(after, (0, 0))
            else:
                self.assertEqual(after, (who, count - 1))
            if who == 2 - turn:
                self.assertTrue(all(w == who and n < count for w, n in behind.values()))

    def test_houses_by_chance(self):
        chance = random.Random(21)
        for number in range(500):
            self.held(house_by_chance(chance))


class HousesByChance(unittest.TestCase):
    """Were these houses dull, the tests above would tell little."""

    def test_they_are_of_many_kinds(self):
        chance = random.Random(20)
        seen = set()
        for number in range(1500):
            house = house_by_chance(chance)
            plain = PlainHouse(*house)
            for so in range(2 ** house[0]):
                for turn in (0, 1):
                    who, count = plain.value(facts_of(so), turn)
                    seen.add((who, min(count, 5), turn))
        for turn in (0, 1):
            self.assertIn((0, 0, turn), seen)
            for who in (1, 2):
                for count in range(6):
                    self.assertIn((who, count, turn), seen)


if __name__ == "__main__":
    unittest.main()

"""counts: three numbers over all states of a house."""

import itertools
import random
import unittest

from asking import act, answer, ask, at, begins, best, counts, last, line, move, value
from houses import house_by_chance, written
from plain_search import PlainHouse

VALUES_AT_ONCE = 11


def values_and_counts(house, facts):
    """Who can force it from each state, as at and value tell it; and what counts answers."""
    states = list(itertools.product(range(2 ** facts), (0, 1)))
    told = []
    for start in range(0, len(states), VALUES_AT_ONCE):
        some = states[start:start + VALUES_AT_ONCE]
        looks = [look for state in some for look in (at(*state), value())]
        rows = ask(*house, *looks, counts())[len(house):]
        for k in range(len(some)):
            won, row = rows[2 * k], rows[2 * k + 1]
            if (row[0] != 0 and row[1] == 0) != (won != [0]):
                raise AssertionError("at and value don't agree")
            told.append(row[0])
    return told, rows[-1]


class Counts(unittest.TestCase):
    def test_at_the_beginning(self):
        self.assertEqual(ask(counts()), [[1, 1, 2]])
        self.assertEqual(ask(begins(1, 1, 1), counts()), [[0], [1, 1, 2]])

    def test_who_has_won_counts_with_each_turn(self):
        self.assertEqual(last(begins(2, 1, 2), counts()), [3, 3, 2])
        self.assertEqual(last(begins(2, 3, 1), counts()), [1, 3, 4])
        self.assertEqual(last(begins(3, 3, 4), counts()), [3, 7, 6])
        self.assertEqual(last(begins(3, 4, 3), counts()), [7, 3, 6])
        self.assertEqual(last(begins(4, 15, 15, 1, 1), counts()), [1, 1, 30])
        self.assertEqual(last(begins(4, 1, 1), counts()), [8, 8, 16])

    def test_who_can_force_it_counts(self):
        self.assertEqual(last(act(0, 0, 0, 1, 0), counts()), [2, 1, 1])
        self.assertEqual(last(act(1, 0, 0, 1, 0), counts()), [1, 2, 1])
        self.assertEqual(last(act(0, 0, 0, 1, 0), act(1, 0, 0, 1, 0), counts()), [2, 2, 0])
        # The first brings fact 0, then fact 1, and the second can but let pass.
        house = [begins(3, 3, 4, 0, 1), act(0, 0, 0, 1, 0), act(0, 1, 0, 2, 0)]
        self.assertEqual(last(*house, counts()), [9, 7, 0])

    def test_all_but_one(self):
        acts = [act(0, 2 ** k - 1, 2 ** k, 2 ** k, 2 ** k - 1) for k in range(4)]
        self.assertEqual(last(begins(4, 15, 15, 0, 1), *acts, counts()), [31, 1, 0])

    def test_acts_told_later_count(self):
        rows = ask(counts(), act(0, 0, 0, 1, 0), counts(), begins(2, 1, 2), counts())
        self.assertEqual(rows[::2], [[1, 1, 2], [2, 1, 1], [3, 3, 2]])

    def test_the_state_now_does_not_count(self):
        house = [begins(3, 3, 4, 0, 1), act(0, 0, 0, 1, 0), act(0, 1, 0, 2, 0)]
        rows = ask(*house, counts(), at(1, 1), counts(), at(7, 0), counts(), at(0, 0), move(0), counts(), answer(),
                   counts())
        self.assertEqual([row for row in rows if len(row) == 3 and sum(row) == 16], [[9, 7, 0]] * 5)

    def test_it_leaves_the_state_as_it_was(self):
        house = [begins(3, 3, 4, 0, 1), act(0, 0, 0, 1, 0), act(0, 1, 0, 2, 0)]
        looks = [value(), best(), line(40), answer(), move(0), move(1), value(), act(0, 0, 0, 0, 0)]
        for state in itertools.product(range(8), (0, 1)):
            behind = ask(*house, at(*state), counts(), *looks)[5:]
            self.assertEqual(behind, ask(*house, at(*state), *looks)[4:])

    def test_together_they_are_all_states_and_agree_with_value_and_at(self):
        chance = random.Random(25)
        seen = set()
        for number in range(300):
            facts, wants, may, acts = house_by_chance(chance)
            house = written(facts, wants, may, acts)
            told, row = values_and_counts(house, facts)
            self.assertEqual(sum(row), 2 * 2 ** facts)
            self.assertEqual(row, [told.count(1), told.count(2), told.count(0)])
            self.assertEqual(row, PlainHouse(facts, wants, may, acts).counts())
            seen.add(facts)
        self.assertEqual(seen, {1, 2, 3, 4})


if __name__ == "__main__":
    unittest.main()

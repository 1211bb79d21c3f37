"""All nine calls mixed in one list, against the plain search, over many small houses."""

import random
import unittest

from againstother.house import answers
from asking import SEARCHING, TOP, act, answer, at, begins, best, counts, in_bounds, line, move, split, value
from houses import house_by_chance, written
from plain_session import plain_answers

MOST_CALLS = 60
MOST_SEARCHING = 12
MOST_NUMBERS = 480


def flat(calls):
    return [number for call in calls for number in call]


def wild(chance, usual):
    """Mostly a number that fits; now and then one that hardly does."""
    if chance.randrange(12) == 0:
        return chance.choice((0, 1, 2, 5, 8, 15, 16, 31, 40, 41, TOP))
    return chance.randrange(usual)


def wild_act(chance):
    return act(*[wild(chance, 2 if k == 0 else 8) for k in range(chance.choice((0, 4, 5, 5, 5, 6)))])


def small_call(chance, facts, acts):
    """A call that isn't counted among those that search."""
    kind = chance.randrange(24)
    if kind == 0:
        return begins(*[wild(chance, 5), wild(chance, 8), wild(chance, 8), wild(chance, 2), wild(chance, 2)])
    if kind < 3:
        return wild_act(chance)
    if kind < 9:
        return at(wild(chance, 2 ** facts), wild(chance, 2))
    return move(wild(chance, acts + 2))


def searching_call(chance):
    return chance.choice((value(), best(), line(wild(chance, 41)), answer(), answer(), counts()))


def session_by_chance(chance):
    """A house and calls about it, as many as may be handed in, or fewer."""
    calls = []
    searching = 0
    goal = chance.choice((20, 40, MOST_CALLS, MOST_CALLS))
    while len(calls) < goal:
        facts, wants, may, acts = house_by_chance(chance)
        calls += written(facts, wants, may, acts)
        for number in range(chance.randrange(10, 60)):
            if searching < MOST_SEARCHING and chance.randrange(3) == 0:
                calls.append(searching_call(chance))
                searching += 1
            else:
                calls.append(small_call(chance, facts, len(acts)))
    calls = calls[:goal]
    # What is missing of those that search takes the last places, so that most lists have as many as they may.
    places = [place for place in range(goal) if calls[place][0] not in SEARCHING]
    missing = MOST_SEARCHING - (goal - len(places))
    for place in places[len(places) - missing:]:
        calls[place] = searching_call(chance)
    while len(flat(calls)) > MOST_NUMBERS:
        calls.pop()
    return calls


class Mixed(unittest.TestCase):
    def agree(self, calls):
        numbers = flat(calls)
        self.assertTrue(in_bounds(calls, numbers))
        handed = list(numbers)
        given = answers(handed)
        self.assertEqual(handed, numbers)
        self.assertEqual(split(given), plain_answers(calls), calls)
        self.assertEqual(answers(handed), given)
        self.assertEqual({type(number) for number in given}, {int})

    def test_by_chance(self):
        chance = random.Random(26)
        for number in range(1200):
            self.agree(session_by_chance(chance))

    def test_a_new_house_without_begins(self):
        chance = random.Random(27)
        for number in range(300):
            calls = [small_call(chance, 1, 3) for place in range(30)] + [searching_call(chance) for place in range(12)]
            chance.shuffle(calls)
            self.agree(calls)

    def test_as_long_as_lists_may_be(self):
        self.agree([act(TOP, TOP, TOP, TOP, TOP, TOP)] * 60)
        longest = [begins(4, 3, 12, 1, 1)] + [act(k % 2, 0, 0, 1 << k % 4, 8 >> k % 4) for k in range(10)]
        refused = [act(0, 0, 0, 0, 0, 0)] * 37
        for call in (value(), best(), line(40), answer(), counts()):
            self.agree(longest + refused + [call] * 12)
        self.agree(longest + [move(10)] * 37 + [line(40)] * 12)


class SessionsByChance(unittest.TestCase):
    """Were these sessions dull, the tests above would tell little."""

    def test_they_are_of_many_kinds(self):
        chance = random.Random(26)
        seen = set()
        full = 0
        for number in range(400):
            calls = session_by_chance(chance)
            searching = sum(1 for call in calls if call[0] in SEARCHING)
            full += len(calls) == MOST_CALLS and searching == MOST_SEARCHING
            for call, row in zip(calls, plain_answers(calls)):
                seen.add((call[0], row[0]))
                if call[0] == 7 and len(row) == 4:
                    seen.add((7, "won", row[1]))
        self.assertGreater(full, 50)
        wanted = [(0, 0), (0, -1), (1, 9), (1, -1), (1, -7), (2, 0), (2, 1), (2, 2), (2, -1), (3, 0), (3, 1), (3, 2)]
        wanted += [(4, -5), (4, 0), (4, 9), (5, -1), (5, 0), (5, 1), (5, 40), (6, 0), (6, 1), (6, 2), (6, -5)]
        wanted += [(7, -5), (7, 0), (7, 9), (7, "won", 0), (7, "won", 1), (7, "won", 2), (8, 1)]
        for pair in wanted:
            self.assertIn(pair, seen)
        self.assertTrue(any(pair[0] == 8 and pair[1] > 24 for pair in seen))


if __name__ == "__main__":
    unittest.main()

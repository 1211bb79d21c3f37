"""move and answer: what they refuse, what they answer, and that they're made."""

import random
import unittest

from asking import TOP, act, answer, ask, at, begins, best, counts, last, line, move, value
from houses import house_by_chance, written
from plain_search import PlainHouse, facts_of, number_of

# The first wants facts 0 and 1 and may let pass (5); the second wants fact 2 and may not.
KNOWN = [
    begins(3, 3, 4, 1, 0), act(0, 0, 0, 1, 0), act(0, 1, 0, 2, 0), act(0, 0, 1, 0, 0), act(1, 2, 0, 4, 0),
    act(1, 0, 0, 0, 1),
]
MOVES_IN_KNOWN = {(0, 0): [0, 2, 5], (1, 0): [0, 1, 5], (2, 0): [0, 2, 5], (0, 1): [4], (1, 1): [4], (2, 1): [3, 4]}
WON_IN_KNOWN = [(so, turn) for so in (3, 4, 5, 6, 7) for turn in (0, 1)]
NUMBERS = [0, 1, 2, 3, 4, 5, 6, 7, 10, 11, 4294967290, TOP]
LOOKS = [value(), best(), line(5), counts(), answer(), value(), act(1, 0, 0, 0, 0), at(8, 0), at(7, 1)]


class MoveRefused(unittest.TestCase):
    def left_as_it_was(self, house, k):
        rows = ask(*house, move(k), *LOOKS)
        self.assertEqual(rows[len(house)], [-5], (house, k))
        self.assertEqual(rows[len(house) + 1:], ask(*house, *LOOKS)[len(house):], (house, k))

    def test_what_is_none_of_the_moves(self):
        # Acts of the other one, acts whose facts aren't as they have to be, letting pass, numbers behind all.
        for (so, turn), moves in MOVES_IN_KNOWN.items():
            for k in NUMBERS:
                if k in moves:
                    self.assertEqual(len(last(*KNOWN, at(so, turn), move(k))), 3)
                else:
                    self.left_as_it_was(KNOWN + [at(so, turn)], k)

    def test_any_where_somebody_has_won(self):
        for state in WON_IN_KNOWN:
            for k in NUMBERS:
                self.left_as_it_was(KNOWN + [at(*state)], k)

    def test_any_where_there_is_none(self):
        for k in NUMBERS:
            self.left_as_it_was([at(0, 0)], k)
            self.left_as_it_was([begins(2, 1, 2, 0, 1), act(1, 0, 0, 0, 0)], k)

    def test_any_behind_a_win(self):
        for k in NUMBERS:
            self.left_as_it_was(KNOWN + [at(1, 0), move(1)], k)

    def test_the_act_of_the_other_one(self):
        self.left_as_it_was([act(1, 0, 0, 1, 0)], 0)
        self.left_as_it_was([act(0, 0, 0, 1, 0), at(0, 1)], 0)

    def test_letting_pass_is_each_ones_own(self):
        for first_may in (0, 1):
            for second_may in (0, 1):
                house = [begins(2, 1, 2, first_may, second_may), act(0, 3, 0, 0, 0)]
                for turn, may in ((0, first_may), (1, second_may)):
                    expected = [0, 0, 1 - turn] if may else [-5]
                    self.assertEqual(last(*house, at(0, turn), move(1)), expected)

    def test_the_number_behind_all_moves(self):
        for count in (0, 1, 10):
            house = [begins(2, 1, 2, 1, 1)] + [act(0, 0, 0, 0, 0)] * count
            self.left_as_it_was(house, count + 1)
            self.assertEqual(last(*house, move(count)), [0, 0, 1])


class Move(unittest.TestCase):
    def test_it_brings(self):
        self.assertEqual(last(begins(4, 8, 8), act(0, 0, 0, 1, 0), move(0)), [0, 1, 1])
        self.assertEqual(last(begins(4, 8, 8), act(1, 0, 0, 6, 0), at(1, 1), move(0)), [0, 7, 0])
        self.assertEqual(last(begins(4, 8, 8), act(0, 0, 0, 3, 0), at(1, 0), move(0)), [0, 3, 1])

    def test_it_takes_away(self):
        self.assertEqual(last(begins(4, 8, 8), act(0, 0, 0, 0, 1), at(7, 0), move(0)), [0, 6, 1])
        self.assertEqual(last(begins(4, 8, 8), act(1, 0, 0, 0, 15), at(5, 1), move(0)), [0, 0, 0])
        self.assertEqual(last(begins(4, 8, 8), act(0, 0, 0, 0, 2), at(5, 0), move(0)), [0, 5, 1])

    def test_it_does_both(self):
        self.assertEqual(last(begins(4, 8, 8), act(0, 0, 0, 2, 1), at(1, 0), move(0)), [0, 2, 1])
        self.assertEqual(last(begins(4, 8, 8), act(1, 0, 0, 4, 3), at(3, 1), move(0)), [0, 4, 0])

    def test_both_of_the_same_fact_then_it_is_so(self):
        for so in (0, 1):
            self.assertEqual(last(begins(4, 8, 8), act(0, 0, 0, 1, 1), at(so, 0), move(0)), [0, 1, 1])
        self.assertEqual(last(begins(4, 8, 8), act(1, 0, 0, 3, 6), at(7, 1), move(0)), [0, 3, 0])

    def test_an_act_may_change_nothing_but_the_turn(self):
        self.assertEqual(last(begins(4, 8, 8), act(0, 5, 2, 0, 0), at(5, 0), move(0)), [0, 5, 1])

    def test_letting_a_turn_pass(self):
        for so in range(8):
            for turn in (0, 1):
                house = [begins(4, 8, 8, 1, 1), act(0, 0, 0, 1, 2), act(1, 0, 0, 2, 1), at(so, turn)]
                self.assertEqual(last(*house, move(2)), [0, so, 1 - turn])

    def test_a_win_by_the_first(self):
        self.assertEqual(last(begins(3, 3, 4), act(0, 1, 0, 2, 0), at(1, 0), move(0)), [1, 3, 1])

    def test_a_win_by_the_second(self):
        self.assertEqual(last(begins(3, 4, 3), act(1, 1, 0, 2, 0), at(1, 1), move(0)), [2, 3, 0])

    def test_a_win_that_is_given_away(self):
        self.assertEqual(last(begins(2, 1, 2), act(0, 0, 0, 2, 0), move(0)), [2, 2, 1])
        self.assertEqual(last(begins(2, 1, 2), act(1, 0, 0, 1, 0), at(0, 1), move(0)), [1, 1, 0])

    def test_a_win_that_both_would_have(self):
        for wants in ((1, 2), (2, 1), (3, 3), (3, 1)):
            house = [begins(2, *wants), act(0, 0, 0, 3, 0), act(1, 0, 0, 3, 0)]
            self.assertEqual(last(*house, move(0)), [1, 3, 1])
            self.assertEqual(last(*house, at(0, 1), move(1)), [2, 3, 0])

    def test_a_part_of_what_is_wanted_is_no_win(self):
        self.assertEqual(last(begins(3, 7, 7), act(0, 0, 0, 6, 0), move(0)), [0, 6, 1])

    def test_it_is_made(self):
        rows = ask(*KNOWN, move(0), value(), best(), move(4), best(), move(0), move(4), move(0), at(1, 0), move(1),
                   value(), best(), line(40), move(5))
        self.assertEqual(rows[6:], [
            [0, 1, 1], [0, 0], [4, 1], [0, 0, 0], [0, 3], [0, 1, 1], [0, 0, 0], [0, 1, 1], [0], [1, 3, 1],
            [1, 0], [-5], [0], [-5],
        ])

    def test_it_leaves_the_acts_and_the_facts(self):
        rows = ask(*KNOWN, counts(), move(0), counts(), act(0, 0, 0, 0, 0), at(7, 0), at(8, 0))
        self.assertEqual(rows[6], rows[8])
        self.assertEqual(rows[9:], [[5], [2], [-1]])


class EveryMoveOfHousesByChance(unittest.TestCase):
    def looked_at(self, house, plain, so, turn, count):
        known = {number: state for number, *state in plain.moves(facts_of(so), turn)}
        for k in (*range(count + 2), TOP):
            row = last(*house, at(so, turn), move(k))
            if k not in known:
                self.assertEqual(row, [-5])
                continue
            behind, other = known[k]
            self.assertEqual(row[1:], [number_of(behind), other])
            # at, value, best and a further move find the state behind it as if it had been told.
            further = [value(), best(), line(3), move(0), answer(), value()]
            told = ask(*house, at(row[1], row[2]), *further)[len(house):]
            moved = ask(*house, at(so, turn), move(k), *further)[len(house) + 1:]
            self.assertEqual(row[:1], told[0])
            self.assertEqual(moved[1:], told[1:])

    def test_all(self):
        chance = random.Random(23)
        for number in range(40):
            told = house_by_chance(chance)
            plain = PlainHouse(*told)
            for so in range(2 ** told[0]):
                self.looked_at(written(*told), plain, so, chance.randrange(2), len(told[3]))


class Answer(unittest.TestCase):
    def test_refused_where_there_is_no_move(self):
        stuck = [begins(2, 1, 2, 0, 1), act(0, 2, 0, 1, 0), act(1, 0, 0, 1, 0)]
        for house in ([at(0, 0)], [at(0, 1)], [at(1, 0)], stuck, *[KNOWN + [at(*state)] for state in WON_IN_KNOWN]):
            rows = ask(*house, answer(), *LOOKS)
            self.assertEqual(rows[len(house)], [-5], house)
            self.assertEqual(rows[len(house) + 1:], ask(*house, *LOOKS)[len(house):], house)

    def test_a_refusal_is_told_at_the_very_beginning(self):
        self.assertEqual(ask(answer(), answer()), [[-5], [-5]])

    def test_the_best_move_then_as_move(self):
        house = [begins(3, 3, 4, 0, 1), act(0, 0, 0, 1, 0), act(0, 1, 0, 2, 0)]
        rows = ask(*house, answer(), answer(), answer(), answer())
        self.assertEqual(rows[3:], [[0, 0, 1, 1], [2, 0, 1, 0], [1, 1, 3, 1], [-5]])

    def test_a_win_by_the_second(self):
        house = [begins(3, 4, 3, 1, 0), act(1, 0, 0, 1, 0), act(1, 1, 0, 2, 0)]
        rows = ask(*house, *[answer()] * 5)
        self.assertEqual(rows[3:], [[2, 0, 0, 1], [0, 0, 1, 0], [2, 0, 1, 1], [1, 2, 3, 0], [-5]])

    def test_the_other_ones_win_if_nothing_else_is_left(self):
        self.assertEqual(last(begins(2, 1, 2), act(0, 0, 0, 2, 0), answer()), [0, 2, 2, 1])

    def test_a_win_that_both_would_have(self):
        house = [begins(2, 1, 2), act(0, 0, 0, 3, 0), act(1, 0, 0, 3, 0)]
        self.assertEqual(last(*house, answer()), [0, 1, 3, 1])
        self.assertEqual(last(*house, at(0, 1), answer()), [1, 2, 3, 0])

    def test_letting_pass(self):
        self.assertEqual(ask(begins(2, 1, 2, 1, 1), answer(), answer())[1:], [[0, 0, 0, 1], [0, 0, 0, 0]])

    def test_as_best_tells_it_and_as_move_makes_it(self):
        chance = random.Random(24)
        for number in range(400):
            told = house_by_chance(chance)
            house = written(*told) + [at(chance.randrange(2 ** told[0]), chance.randrange(2))]
            told_best = last(*house, best())
            rows = ask(*house, answer(), value(), best(), line(4))[len(house):]
            if told_best == [-5]:
                self.assertEqual(rows[0], [-5])
                continue
            made = ask(*house, move(told_best[0]), value(), best(), line(4))[len(house):]
            self.assertEqual(rows, [told_best[:1] + made[0]] + made[1:])

    def test_whoever_can_force_it_wins_in_as_many_answers(self):
        house = [begins(4, 3, 4, 0, 1), act(0, 0, 0, 1, 0), act(0, 1, 0, 2, 0), act(1, 1, 8, 8, 1)]
        rows = ask(*house, value(), *[answer()] * 5, value(), answer())[4:]
        self.assertEqual(rows[0], [1, 5])
        self.assertEqual([row[1] for row in rows[1:6]], [0, 0, 0, 0, 1])
        self.assertEqual(rows[6:], [[1, 0], [-5]])


if __name__ == "__main__":
    unittest.main()

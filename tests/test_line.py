"""line: what it refuses, where it ends, and that both make the best move in it."""

import random
import unittest

from asking import TOP, act, answer, ask, at, begins, best, counts, last, line, move, value
from houses import house_by_chance, written

# The first brings facts 0 and 1 one behind the other, the second lets pass (2); nobody brings fact 2.
STEPS = [begins(3, 3, 4, 0, 1), act(0, 0, 0, 1, 0), act(0, 1, 0, 2, 0)]

# Nobody can do anything but let a turn pass (0).
FOR_EVER = [begins(2, 1, 2, 1, 1)]

# The first counts the four facts up to 15 in two's digits, with the second letting pass (4) between.
COUNTING = [begins(4, 15, 15, 0, 1)] + [act(0, 2 ** k - 1, 2 ** k, 2 ** k, 2 ** k - 1) for k in range(4)]
COUNTED = [0, 4, 1, 4, 0, 4, 2, 4, 0, 4, 1, 4, 0, 4, 3, 4, 0, 4, 1, 4, 0, 4, 2, 4, 0, 4, 1, 4, 0]


class HowMany(unittest.TestCase):
    def test_none(self):
        for house in (STEPS, FOR_EVER, COUNTING, [at(0, 0)]):
            self.assertEqual(last(*house, line(0)), [0])

    def test_so_many(self):
        self.assertEqual(last(*STEPS, line(1)), [1, 0])
        self.assertEqual(last(*STEPS, line(2)), [2, 0, 2])
        self.assertEqual(last(*STEPS, line(3)), [3, 0, 2, 1])
        for most in (1, 2, 39, 40):
            self.assertEqual(last(*FOR_EVER, line(most)), [most] + [0] * most)

    def test_a_long_line_is_cut_anywhere(self):
        for most in range(41):
            count = min(most, 29)
            self.assertEqual(last(*COUNTING, line(most)), [count] + COUNTED[:count])

    def test_more_than_40_are_refused(self):
        for most in (41, 42, 80, 256, TOP):
            for house in (STEPS, FOR_EVER, COUNTING, [at(0, 0)], STEPS + [at(3, 1)]):
                self.assertEqual(last(*house, line(most)), [-1], most)

    def test_a_refusal_leaves_all_as_it_was(self):
        looks = [value(), best(), line(3), counts(), move(2), value(), act(0, 0, 0, 0, 0), at(7, 0), at(8, 0)]
        for most in (41, TOP):
            house = STEPS + [at(1, 1)]
            self.assertEqual(ask(*house, line(most), *looks)[5:], ask(*house, *looks)[4:])


class WhereItEnds(unittest.TestCase):
    def test_with_a_win_of_the_first(self):
        for most in (3, 4, 40):
            self.assertEqual(last(*STEPS, line(most)), [3, 0, 2, 1])

    def test_with_a_win_of_the_second(self):
        house = [begins(3, 4, 3, 1, 0), act(1, 0, 0, 1, 0), act(1, 1, 0, 2, 0)]
        for most in (4, 5, 40):
            self.assertEqual(last(*house, line(most)), [4, 2, 0, 2, 1])

    def test_with_a_win_that_the_mover_has_to_give_away(self):
        self.assertEqual(last(begins(2, 1, 2, 0, 1), act(0, 0, 0, 2, 0), line(40)), [1, 0])

    def test_where_none_may_be_done(self):
        house = [begins(3, 1, 2), act(0, 0, 4, 4, 0)]
        self.assertEqual(last(*house, line(40)), [1, 0])
        self.assertEqual(last(*house, act(1, 4, 0, 0, 0), line(40)), [2, 0, 1])

    def test_from_a_state_without_a_move(self):
        for most in (0, 1, 40):
            self.assertEqual(ask(line(most)), [[0]])
            self.assertEqual(last(*STEPS, at(0, 0), at(2, 0), at(4, 0), line(most)), [0])
            for so, turn in ((3, 0), (3, 1), (4, 0), (4, 1), (7, 0), (7, 1)):
                self.assertEqual(last(*STEPS, at(so, turn), line(most)), [0])


class BothMakeTheBestMove(unittest.TestCase):
    def test_the_second_delays(self):
        house = [begins(4, 3, 4, 0, 1), act(0, 0, 0, 1, 0), act(0, 1, 0, 2, 0), act(1, 1, 8, 8, 1)]
        self.assertEqual(last(*house, line(40)), [5, 0, 2, 0, 3, 1])

    def test_the_first_delays(self):
        house = [begins(4, 15, 4), act(0, 0, 0, 2, 0), act(0, 0, 8, 9, 0), act(1, 0, 1, 4, 0), act(1, 1, 0, 0, 1)]
        self.assertEqual(last(*house, line(40)), [4, 1, 3, 0, 2])

    def test_each_keeps_the_other_from_it(self):
        # What the first brings the second has to take away at once.
        house = [begins(3, 3, 4, 0, 1), act(0, 0, 1, 1, 0), act(0, 1, 0, 2, 0), act(1, 0, 0, 0, 1)]
        self.assertEqual(last(*house, line(6)), [6, 0, 2, 0, 2, 0, 2])

    def test_from_the_state_now(self):
        self.assertEqual(last(*STEPS, at(1, 0), line(40)), [1, 1])
        self.assertEqual(last(*STEPS, at(1, 1), line(40)), [2, 2, 1])
        self.assertEqual(last(*STEPS, move(0), line(40)), [2, 2, 1])
        self.assertEqual(last(*STEPS, answer(), answer(), line(40)), [1, 1])

    def test_as_best_and_answer_go_on(self):
        chance = random.Random(22)
        for number in range(300):
            told = house_by_chance(chance)
            house = written(*told) + [at(chance.randrange(2 ** told[0]), chance.randrange(2))]
            rows = ask(*house, line(9), best(), *[answer()] * 10)[len(house):]
            made = [row[0] for row in rows[2:] if row != [-5]][:9]
            self.assertEqual(rows[0], [len(made)] + made)
            self.assertEqual(rows[1][0], (made + [-5])[0])


class ItDoesNotMoveTheHouse(unittest.TestCase):
    def test_the_state_now_is_the_same(self):
        looks = [value(), best(), line(40), answer(), move(0), value()]
        for house in (STEPS, STEPS + [at(1, 1)], FOR_EVER, COUNTING, COUNTING + [at(7, 1)], STEPS + [at(3, 0)]):
            for most in (0, 1, 2, 40):
                behind = ask(*house, line(most), *looks)[len(house) + 1:]
                self.assertEqual(behind, ask(*house, *looks)[len(house):])


if __name__ == "__main__":
    unittest.main()

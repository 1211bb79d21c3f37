"""value and best, case by case as the document words them."""

import unittest

from asking import act, ask, at, begins, best, last, value


def steps_of(who, first_may, second_may):
    """One of the two wants facts 0 and 1 and has to bring one behind the other; nobody can bring fact 2."""
    wants = (3, 4) if who == 0 else (4, 3)
    return [begins(3, *wants, first_may, second_may), act(who, 0, 0, 1, 0), act(who, 1, 0, 2, 0)]


class Value(unittest.TestCase):
    def all_at(self, house, expected):
        for (so, turn), row in expected.items():
            self.assertEqual(last(*house, at(so, turn), value()), row, (so, turn))

    def test_won_already(self):
        self.all_at([begins(2, 1, 2, 1, 1)],
                    {(1, 0): [1, 0], (1, 1): [1, 0], (2, 0): [2, 0], (2, 1): [2, 0], (3, 0): [2, 0], (3, 1): [1, 0]})

    def test_forced_by_the_first(self):
        self.all_at(steps_of(0, 0, 1), {(1, 0): [1, 1], (1, 1): [1, 2], (0, 0): [1, 3], (0, 1): [1, 4]})

    def test_forced_by_the_second(self):
        self.all_at(steps_of(1, 1, 0), {(1, 1): [2, 1], (1, 0): [2, 2], (0, 1): [2, 3], (0, 0): [2, 4]})

    def test_in_the_fewest_moves(self):
        # Alone the long way would take 3.
        self.assertEqual(last(*steps_of(0, 0, 1), value()), [1, 3])
        self.assertEqual(last(*steps_of(0, 0, 1), act(0, 0, 0, 3, 0), value()), [1, 1])

    def test_the_other_one_delays_as_long_as_it_goes(self):
        # The second may take fact 0 away once, while fact 3 isn't so.
        house = [begins(4, 3, 4, 0, 1), act(0, 0, 0, 1, 0), act(0, 1, 0, 2, 0), act(1, 1, 8, 8, 1)]
        self.all_at(house, {(1, 0): [1, 1], (0, 0): [1, 5], (8, 0): [1, 3], (1, 1): [1, 4], (9, 1): [1, 2]})

    def test_the_longest_walk(self):
        # The first counts the four facts up to 15 in two's digits, with the second letting pass between.
        acts = [act(0, 2 ** k - 1, 2 ** k, 2 ** k, 2 ** k - 1) for k in range(4)]
        house = [begins(4, 15, 15, 0, 1)] + acts
        self.all_at(house, {(0, 0): [1, 29], (0, 1): [1, 30], (7, 1): [1, 16], (14, 0): [1, 1]})

    def test_neither_can(self):
        # Whatever the first brings, the second takes it away again.
        house = steps_of(0, 1, 1) + [act(1, 0, 0, 0, 3)]
        self.all_at(house, {(0, 0): [0, 0], (0, 1): [0, 0], (1, 1): [0, 0], (1, 0): [1, 1]})

    def test_neither_has_a_way_at_all(self):
        self.all_at([begins(2, 1, 2, 1, 1)], {(0, 0): [0, 0], (0, 1): [0, 0]})

    def test_without_a_move_nobody_has_won(self):
        self.all_at([begins(2, 1, 2)], {(0, 0): [0, 0], (0, 1): [0, 0]})
        # At (0, 1) the second is stuck; the first doesn't get the turn back.
        self.all_at([begins(2, 1, 2), act(0, 0, 0, 1, 0)], {(0, 0): [1, 1], (0, 1): [0, 0]})
        # One who may run into being stuck isn't forced.
        house = [begins(3, 1, 2), act(0, 0, 4, 1, 0), act(1, 0, 0, 0, 0), act(1, 0, 0, 4, 0)]
        self.all_at(house, {(0, 0): [1, 1], (0, 1): [0, 0], (4, 0): [0, 0], (4, 1): [0, 0]})

    def test_letting_pass_allowed_or_not(self):
        self.assertEqual(last(*steps_of(0, 0, 1), value()), [1, 3])
        self.assertEqual(last(*steps_of(0, 0, 0), value()), [0, 0])
        self.assertEqual(last(*steps_of(0, 1, 0), value()), [0, 0])
        self.assertEqual(last(*steps_of(1, 1, 0), value()), [2, 4])
        self.assertEqual(last(*steps_of(1, 0, 1), value()), [0, 0])

    def test_who_must_move_may_have_to_give_it_away(self):
        house = [act(0, 0, 0, 2, 0), value()]
        self.assertEqual(last(begins(2, 1, 2, 0, 0), *house), [2, 1])
        self.assertEqual(last(begins(2, 1, 2, 1, 1), *house), [0, 0])

    def test_who_brings_both_wishes_about_has_won(self):
        house = [begins(2, 1, 2), act(0, 0, 0, 3, 0), act(1, 0, 0, 3, 0)]
        self.all_at(house, {(0, 0): [1, 1], (0, 1): [2, 1]})

    def test_a_wish_is_all_of_its_facts(self):
        self.assertEqual(last(begins(3, 7, 7), act(0, 0, 0, 3, 0), value()), [0, 0])
        self.assertEqual(last(begins(3, 7, 7), act(0, 0, 0, 7, 0), value()), [1, 1])

    def test_act_and_state_told_later_count(self):
        rows = ask(begins(1, 1, 1), value(), act(0, 0, 0, 1, 0), value(), at(0, 1), value())
        self.assertEqual(rows[1::2], [[0, 0], [1, 1], [0, 0]])


class WhatAnActDoes(unittest.TestCase):
    def test_taken_away_and_brought_is_so(self):
        self.assertEqual(last(begins(2, 3, 3), act(0, 0, 0, 3, 3), value()), [1, 1])
        self.assertEqual(last(begins(2, 3, 3), at(1, 0), act(0, 0, 0, 2, 2), value()), [1, 1])
        self.assertEqual(last(begins(2, 3, 3), at(1, 0), act(0, 0, 0, 3, 1), value()), [1, 1])

    def test_taken_away_is_not_so(self):
        self.assertEqual(last(begins(2, 3, 3), at(1, 0), act(0, 0, 0, 2, 1), value()), [0, 0])

    def test_the_rest_stays(self):
        self.assertEqual(last(begins(3, 7, 7), at(5, 0), act(0, 0, 0, 2, 0), value()), [1, 1])
        self.assertEqual(last(begins(3, 7, 7), at(4, 0), act(0, 0, 0, 2, 1), value()), [0, 0])

    def test_all_that_has_to_be_so_is(self):
        house = [begins(4, 8, 8), act(0, 3, 0, 8, 0)]
        for so, row in ((0, [-5]), (1, [-5]), (2, [-5]), (3, [0, 1]), (4, [-5]), (7, [0, 1])):
            self.assertEqual(last(*house, at(so, 0), best()), row, so)

    def test_none_that_must_not_be_is(self):
        house = [begins(4, 8, 8), act(0, 0, 3, 8, 0)]
        for so, row in ((0, [0, 1]), (1, [-5]), (2, [-5]), (3, [-5]), (4, [0, 1]), (5, [-5])):
            self.assertEqual(last(*house, at(so, 0), best()), row, so)

    def test_a_fact_that_has_to_be_and_must_not_be_so(self):
        house = [begins(2, 2, 2), act(0, 1, 1, 2, 0)]
        for so in (0, 1):
            self.assertEqual(last(*house, at(so, 0), best()), [-5])

    def test_it_is_done_by_whose_it_is(self):
        house = [begins(2, 1, 2), act(1, 0, 0, 2, 0), act(0, 0, 0, 1, 0)]
        self.assertEqual(last(*house, at(0, 0), best()), [1, 1])
        self.assertEqual(last(*house, at(0, 1), best()), [0, 1])


class Best(unittest.TestCase):
    def test_refused_where_somebody_has_won(self):
        house = [begins(2, 1, 2, 1, 1), act(0, 0, 0, 1, 0), act(1, 0, 0, 2, 0)]
        for so in (1, 2, 3):
            for turn in (0, 1):
                self.assertEqual(last(*house, at(so, turn), best()), [-5])

    def test_refused_where_none_may_be_done(self):
        house = [begins(2, 1, 2, 0, 1), act(0, 2, 0, 1, 0), act(1, 0, 0, 1, 0)]
        self.assertEqual(last(*house, best()), [-5])
        self.assertEqual(last(*house, at(0, 1), best()), [2, 2])

    def test_a_refusal_leaves_all_as_it_was(self):
        rows = ask(begins(2, 1, 2), best(), act(0, 0, 0, 1, 0), best(), value(), at(1, 1), best(), value())
        self.assertEqual(rows[1:], [[-5], [0], [0, 1], [1, 1], [1], [-5], [1, 0]])

    def test_the_fewest_moves_to_ones_own_win(self):
        # Behind act 0 and behind letting pass it takes two moves more, behind act 2 none.
        self.assertEqual(last(*steps_of(0, 1, 1), act(0, 0, 0, 3, 0), best()), [2, 3])
        self.assertEqual(last(*steps_of(1, 1, 1), act(1, 0, 0, 3, 0), at(0, 1), best()), [2, 3])

    def test_a_win_later_is_ahead_of_keeping_the_other_from_it(self):
        # Act 0 changes nothing, so that the second can't force it; act 1 forces it in 3.
        house = [begins(3, 3, 4, 0, 1), act(0, 0, 0, 0, 0), act(0, 0, 0, 1, 0), act(0, 1, 0, 2, 0)]
        self.assertEqual(last(*house, best()), [1, 2])
        self.assertEqual(last(*house, at(1, 0), best()), [2, 3])

    def test_of_several_wins_the_lowest(self):
        house = [begins(2, 1, 2), act(0, 0, 0, 0, 0), act(1, 0, 0, 1, 0), act(0, 0, 0, 1, 0), act(0, 0, 0, 3, 0)]
        self.assertEqual(last(*house, best()), [2, 3])

    def test_else_the_lowest_that_keeps_the_other_from_it(self):
        # The second brings fact 2 unless fact 0 is so: acts 1 and 2 keep it off.
        house = [begins(4, 8, 4, 1, 1), act(0, 0, 0, 2, 0), act(0, 0, 0, 1, 0), act(0, 0, 0, 3, 0),
                 act(1, 0, 1, 4, 0)]
        self.assertEqual(last(*house, best()), [1, 4])
        self.assertEqual(last(*house, value()), [0, 0])

    def test_a_state_without_a_move_keeps_as_well(self):
        # Behind act 0 the second wins, behind "ends" they have no move, behind "goes_on" nothing ever changes.
        ends = act(0, 0, 0, 1, 0)
        goes_on = act(0, 0, 0, 5, 0)
        for kept in ((ends, goes_on), (goes_on, ends)):
            house = [begins(4, 8, 2), act(0, 0, 0, 0, 0), *kept, act(1, 0, 1, 2, 0), act(1, 4, 0, 0, 0)]
            self.assertEqual(last(*house, best()), [1, 3])

    def test_keeping_by_letting_pass(self):
        # Act 0 gives the second what they want.
        house = [begins(2, 1, 2, 1, 1), act(0, 0, 0, 2, 0), act(1, 0, 0, 0, 0)]
        self.assertEqual(last(*house, best()), [2, 2])

    def test_else_the_most_moves_to_the_others_win(self):
        # Act 1 makes the second take fact 0 away again before they can bring fact 2.
        house = [begins(4, 15, 4), act(0, 0, 0, 2, 0), act(0, 0, 8, 9, 0), act(1, 0, 1, 4, 0), act(1, 1, 0, 0, 1)]
        self.assertEqual(ask(*house, value(), best())[5:], [[2, 4], [1, 2]])
        self.assertEqual(ask(*house, at(8, 0), value(), best())[6:], [[2, 2], [0, 1]])
        self.assertEqual(ask(*house, at(9, 1), value(), best())[6:], [[2, 3], [3, 1]])

    def test_of_several_such_the_lowest(self):
        house = [begins(4, 15, 4), act(0, 0, 0, 2, 0), act(0, 0, 8, 9, 0), act(0, 0, 8, 11, 0),
                 act(1, 0, 1, 4, 0), act(1, 1, 0, 0, 1)]
        self.assertEqual(ask(*house, value(), best())[6:], [[2, 4], [1, 3]])

    def test_giving_it_away_at_once_is_worst(self):
        house = [begins(3, 4, 2, 0, 0), act(0, 0, 0, 2, 0), act(0, 0, 0, 1, 0), act(1, 0, 0, 2, 0)]
        self.assertEqual(ask(*house, value(), best())[4:], [[2, 2], [1, 2]])

    def test_the_number_of_letting_pass(self):
        for count in (0, 1, 2, 10):
            house = [begins(2, 1, 2, 1, 0)] + [act(1, 0, 0, 0, 0)] * count
            self.assertEqual(last(*house, best()), [count, 1])

    def test_letting_pass_comes_behind_acts_as_good(self):
        house = [begins(2, 1, 2, 1, 1), act(1, 0, 0, 0, 0), act(0, 0, 0, 0, 0)]
        self.assertEqual(last(*house, best()), [1, 2])
        self.assertEqual(last(*house, at(0, 1), best()), [0, 2])

    def test_letting_pass_may_be_what_wins(self):
        # The second has but one move, and it gives the first what they want; act 0 would bar it.
        house = [begins(3, 1, 2, 1, 0), act(0, 0, 0, 4, 0), act(1, 0, 4, 1, 0)]
        self.assertEqual(ask(*house, value(), best())[3:], [[1, 2], [2, 2]])

    def test_how_many_moves_there_are(self):
        house = [begins(3, 4, 4, 1, 0), act(0, 0, 0, 0, 0), act(0, 1, 0, 0, 0), act(0, 0, 1, 0, 0),
                 act(1, 0, 0, 0, 0), act(0, 2, 0, 0, 0)]
        counts = [last(*house, at(so, turn), best())[1] for so in range(4) for turn in (0, 1)]
        self.assertEqual(counts, [3, 1, 3, 1, 4, 1, 4, 1])


if __name__ == "__main__":
    unittest.main()

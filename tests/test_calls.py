"""begins, act and at: what they refuse, what they answer, and what is so behind them."""

import unittest

from asking import TOP, act, ask, at, begins, best, last, value

WRONG = [-1]
FULL = [-7]

REFUSED_BEGINS = [
    begins(0, 1, 1), begins(0, 0, 0), begins(5, 1, 1), begins(5, 31, 31), begins(TOP, 1, 1),
    begins(1, 2, 1), begins(1, 3, 1), begins(2, 4, 1), begins(3, 8, 1), begins(4, 16, 1), begins(4, TOP, 1),
    begins(1, 1, 2), begins(1, 1, 3), begins(2, 1, 4), begins(3, 1, 8), begins(4, 1, 16), begins(4, 1, TOP),
    begins(1, 0, 1), begins(4, 0, 15), begins(1, 1, 0), begins(4, 15, 0), begins(4, 0, 0),
    begins(1, 1, 1, 2, 0), begins(1, 1, 1, TOP, 0), begins(1, 1, 1, 0, 2), begins(1, 1, 1, 0, TOP),
    begins(TOP, TOP, TOP, TOP, TOP),
]

REFUSED_ACTS = [
    act(), act(0), act(1), act(0, 0, 0, 0), act(0, 0, 0, 0, 0, 0), act(0, 0, 0),
    act(2, 0, 0, 0, 0), act(TOP, 0, 0, 0, 0),
    act(0, 8, 0, 0, 0), act(0, 0, 8, 0, 0), act(0, 0, 0, 8, 0), act(0, 0, 0, 0, 8),
    act(1, 15, 0, 0, 0), act(1, 0, 15, 0, 0), act(1, 0, 0, 15, 0), act(1, 0, 0, 0, 15),
    act(1, TOP, 0, 0, 0), act(1, 0, TOP, 0, 0), act(1, 0, 0, TOP, 0), act(1, 0, 0, 0, TOP),
]

REFUSED_ATS = [at(8, 0), at(9, 1), at(TOP, 0), at(0, 2), at(7, 2), at(0, TOP), at(TOP, TOP)]

# Three facts; the first wants 0 and 1, the second wants 2. At (1, 1) the second can only let it pass.
KNOWN = [
    begins(3, 3, 4, 0, 1), act(0, 0, 0, 1, 0), act(0, 1, 0, 2, 0), act(1, 2, 0, 4, 0), at(1, 1),
]
LOOKS = [value(), best(), at(7, 0), at(8, 0), at(4, 1), at(3, 0), act(0, 0, 0, 0, 0)]
SEEN = [[1, 2], [3, 1], [2], WRONG, [2], [1], [3]]


class Refused(unittest.TestCase):
    """Each refusal by itself, in a house whose every trait is looked at behind it."""

    def left_as_it_was(self, call, refusal):
        rows = ask(*KNOWN, call, *LOOKS)
        self.assertEqual(rows[len(KNOWN)], refusal, call)
        self.assertEqual(rows[len(KNOWN) + 1:], SEEN, call)

    def test_the_house_without_a_refusal(self):
        self.assertEqual(ask(*KNOWN, *LOOKS), [[0], [0], [1], [2], [0]] + SEEN)

    def test_begins(self):
        for call in REFUSED_BEGINS:
            self.left_as_it_was(call, WRONG)

    def test_act(self):
        for call in REFUSED_ACTS:
            self.left_as_it_was(call, WRONG)

    def test_at(self):
        for call in REFUSED_ATS:
            self.left_as_it_was(call, WRONG)

    def test_all_at_the_beginning(self):
        for call in REFUSED_BEGINS + REFUSED_ACTS + REFUSED_ATS:
            rows = ask(call, value(), best(), at(2, 0), act(0, 0, 0, 2, 0), act(0, 0, 0, 1, 0), value(), at(1, 1))
            self.assertEqual(rows, [WRONG, [0, 0], [-5], WRONG, WRONG, [0], [1, 1], [1]], call)


class Begins(unittest.TestCase):
    def test_the_edges_that_are_accepted(self):
        for call in (begins(1, 1, 1), begins(1, 1, 1, 1, 0), begins(1, 1, 1, 0, 1), begins(2, 3, 3),
                     begins(3, 7, 4), begins(4, 15, 15, 1, 1), begins(4, 8, 1)):
            self.assertEqual(ask(call), [[0]], call)

    def test_nothing_is_so(self):
        # Were fact 0 still so, the first would have won, or the act would be barred.
        rows = ask(begins(2, 1, 2), at(1, 0), begins(2, 1, 2), act(0, 0, 3, 1, 0), value())
        self.assertEqual(rows[-1], [1, 1])

    def test_it_is_the_first_ones_turn(self):
        rows = ask(begins(1, 1, 1), at(0, 1), begins(1, 1, 1), act(0, 0, 0, 1, 0), best())
        self.assertEqual(rows[-1], [0, 1])

    def test_there_are_no_acts_any_more(self):
        tell = act(0, 0, 0, 1, 0)
        rows = ask(begins(2, 1, 2, 1, 0), *[tell] * 10, begins(2, 1, 2, 1, 0), value(), best(), tell)
        self.assertEqual(rows[-3:], [[0, 0], [0, 1], [0]])

    def test_the_facts_are_those_of_the_last_one(self):
        rows = ask(begins(4, 1, 2), at(15, 0), begins(2, 1, 2), at(4, 0), at(3, 0), act(0, 4, 0, 0, 0))
        self.assertEqual(rows[3:], [WRONG, [2], WRONG])

    def test_each_facts_bound(self):
        for facts in (1, 2, 3, 4):
            top = 2 ** facts
            rows = ask(begins(facts, 1, 1), at(top - 1, 1), at(top, 0), act(0, top - 1, top - 1, top - 1, top - 1),
                       act(0, top, 0, 0, 0), begins(facts, top - 1, top - 1), begins(facts, top, 1))
            self.assertEqual(rows, [[0], [1], WRONG, [0], WRONG, [0], WRONG], facts)

    def test_wants_and_letting_pass_are_each_ones_own(self):
        rows = ask(begins(2, 1, 2, 1, 0), at(1, 0), at(2, 0), at(0, 0), best(), at(0, 1), best())
        self.assertEqual(rows[1:], [[1], [2], [0], [0, 1], [0], [-5]])
        rows = ask(begins(2, 2, 1, 0, 1), at(1, 0), at(2, 0), at(0, 0), best(), at(0, 1), best())
        self.assertEqual(rows[1:], [[2], [1], [0], [-5], [0], [0, 1]])


class Act(unittest.TestCase):
    def test_numbers_rise_from_0(self):
        rows = ask(*[act(k % 2, 0, 0, 0, 0) for k in range(10)])
        self.assertEqual(rows, [[k] for k in range(10)])

    def test_an_eleventh_is_refused_whatever_it_is(self):
        ten = [begins(3, 1, 2, 1, 0)] + [act(1, 0, 0, 0, 0)] * 10
        for call in REFUSED_ACTS + [act(0, 0, 0, 1, 0), act(1, 7, 7, 7, 7)]:
            rows = ask(*ten, call, value(), best(), call)
            self.assertEqual(rows[10:], [[9], FULL, [0, 0], [10, 1], FULL], call)

    def test_a_tenth_is_refused_for_its_own_sake_alone(self):
        rows = ask(*[act(0, 0, 0, 0, 0)] * 9, act(), act(2, 0, 0, 0, 0), act(0, 0, 0, 0, 0), act())
        self.assertEqual(rows[9:], [WRONG, WRONG, [9], FULL])

    def test_a_refused_one_takes_no_number(self):
        rows = ask(act(0, 0, 0, 0), act(0, 0, 0, 1, 0), act(0, 2, 0, 0, 0), act(1, 0, 0, 1, 0))
        self.assertEqual(rows, [WRONG, [0], WRONG, [1]])


class At(unittest.TestCase):
    def test_who_has_won(self):
        for turn in (0, 1):
            rows = ask(begins(3, 3, 4), at(0, turn), at(1, turn), at(2, turn), at(3, turn), at(4, turn), at(6, turn))
            self.assertEqual(rows, [[0], [0], [0], [0], [1], [2], [2]])

    def test_if_both_would_have_the_one_has_whose_turn_it_is_not(self):
        self.assertEqual(ask(begins(3, 3, 4), at(7, 0), at(7, 1)), [[0], [2], [1]])
        self.assertEqual(ask(begins(2, 1, 1), at(1, 0), at(3, 1)), [[0], [2], [1]])

    def test_it_is_the_state_now(self):
        house = [begins(2, 1, 2), act(0, 0, 0, 1, 0), act(1, 0, 0, 2, 0)]
        self.assertEqual(ask(*house, at(0, 1), value(), best())[3:], [[0], [2, 1], [1, 1]])
        self.assertEqual(ask(*house, at(0, 0), value(), best())[3:], [[0], [1, 1], [0, 1]])

    def test_also_where_somebody_has_won(self):
        house = [begins(2, 1, 2, 1, 1), act(0, 0, 0, 1, 0), act(1, 0, 0, 2, 0)]
        self.assertEqual(ask(*house, at(1, 0), value(), best())[3:], [[1], [1, 0], [-5]])
        self.assertEqual(ask(*house, at(2, 0), value(), best())[3:], [[2], [2, 0], [-5]])

    def test_it_leaves_the_acts(self):
        self.assertEqual(last(act(0, 0, 0, 1, 0), at(0, 1), act(0, 0, 0, 1, 0)), [1])


class AtTheBeginning(unittest.TestCase):
    def test_nobody_has_won_and_there_is_no_move(self):
        self.assertEqual(ask(value(), best()), [[0, 0], [-5]])

    def test_neither_may_let_a_turn_pass(self):
        self.assertEqual(ask(at(0, 0), best(), at(0, 1), best()), [[0], [-5], [0], [-5]])

    def test_there_is_one_fact_which_both_want(self):
        self.assertEqual(ask(at(1, 0), at(1, 1), at(2, 0), at(3, 1)), [[2], [1], WRONG, WRONG])

    def test_it_is_not_so(self):
        self.assertEqual(last(act(0, 1, 0, 1, 0), best()), [-5])
        self.assertEqual(last(act(0, 0, 1, 1, 0), value()), [1, 1])

    def test_it_is_the_first_ones_turn(self):
        self.assertEqual(last(act(0, 0, 0, 1, 0), value()), [1, 1])
        self.assertEqual(last(act(1, 0, 0, 1, 0), value()), [0, 0])

    def test_there_is_no_act(self):
        self.assertEqual(ask(act(1, 0, 0, 0, 0)), [[0]])


if __name__ == "__main__":
    unittest.main()

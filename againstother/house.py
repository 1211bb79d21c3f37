"""A house, the calls on it, and how they are read from one list of numbers."""

from againstother.force import Act, Game, are_facts, best_line, best_move, count_of_states, forced_by
from againstother.force import forced_by_each, moves_in, state_behind, state_of, winner

BEGINS = 0
ACT = 1
AT = 2
VALUE = 3
BEST = 4
LINE = 5
MOVE = 6
ANSWER = 7

# How many whole numbers stand behind a call's own number; act's row comes with its own count.
SIZES = (5, 0, 2, 0, 0, 1, 1, 0, 0)

MOST_FACTS = 4
MOST_ACTS = 10
MOST_OF_LINE = 40
NUMBERS_OF_ACT = 5

WRONG = -1
NO_MOVE = -5
FULL = -7


class House:
    """A game and the state that it is in; each call answers its numbers as a list."""

    def __init__(self):
        self.game = Game(1, (1, 1), (0, 0))
        self.state = state_of(0, 0)

    def begins(self, facts, first_wants, second_wants, first_may, second_may):
        # A number of facts that is out of bounds would make the sets' bounds meaningless.
        if facts < 1 or facts > MOST_FACTS:
            return [WRONG]
        if not is_wish(facts, first_wants) or not is_wish(facts, second_wants):
            return [WRONG]
        if first_may > 1 or second_may > 1:
            return [WRONG]
        self.game = Game(facts, (first_wants, second_wants), (first_may, second_may))
        self.state = state_of(0, 0)
        return [0]

    def act(self, told):
        number = len(self.game.acts)
        if number == MOST_ACTS:
            return [FULL]
        if not is_act(self.game.facts, told):
            return [WRONG]
        self.game.acts.append(Act(told))
        return [number]

    def at(self, so, turn):
        if not are_facts(self.game.facts, so) or turn > 1:
            return [WRONG]
        self.state = state_of(so, turn)
        return [winner(self.game, self.state)]

    def value(self):
        first = forced_by(self.game, 0)
        if self.state in first:
            return [1, first[self.state]]
        second = forced_by(self.game, 1)
        if self.state in second:
            return [2, second[self.state]]
        return [0, 0]

    def best(self):
        moves = moves_in(self.game, self.state)
        if len(moves) == 0:
            return [NO_MOVE]
        return [self.best_now(), len(moves)]

    def line(self, most):
        if most > MOST_OF_LINE:
            return [WRONG]
        moves = best_line(self.game, self.state, most)
        return [len(moves)] + moves

    def move(self, number):
        if number not in moves_in(self.game, self.state):
            return [NO_MOVE]
        return self.make(number)

    def answer(self):
        if len(moves_in(self.game, self.state)) == 0:
            return [NO_MOVE]
        number = self.best_now()
        return [number] + self.make(number)

    def counts(self):
        first = len(forced_by(self.game, 0))
        second = len(forced_by(self.game, 1))
        return [first, second, count_of_states(self.game) - first - second]

    def best_now(self):
        return best_move(self.game, self.state, forced_by_each(self.game))

    def make(self, number):
        """Makes a move that there is; who has won by it, what's so and whose turn it is."""
        self.state = state_behind(self.game, self.state, number)
        return [winner(self.game, self.state), self.state // 2, self.state % 2]


def is_wish(facts, wanted):
    return wanted > 0 and are_facts(facts, wanted)


def is_act(facts, told):
    if len(told) != NUMBERS_OF_ACT or told[0] > 1:
        return False
    return all([are_facts(facts, so) for so in told[1:]])


def answer_of(house, call, told):
    if call == BEGINS:
        return house.begins(told[0], told[1], told[2], told[3], told[4])
    if call == ACT:
        return house.act(told)
    if call == AT:
        return house.at(told[0], told[1])
    if call == VALUE:
        return house.value()
    if call == BEST:
        return house.best()
    if call == LINE:
        return house.line(told[0])
    if call == MOVE:
        return house.move(told[0])
    if call == ANSWER:
        return house.answer()
    return house.counts()


def answers(calls):
    """For each call, in order: how many numbers are answered, then these."""
    house = House()
    given = []
    place = 0
    while place < len(calls):
        call = calls[place]
        start = place + 1
        size = SIZES[call]
        if call == ACT:
            size = calls[start]
            start = start + 1
        answer = answer_of(house, call, calls[start:start + size])
        given.append(len(answer))
        given.extend(answer)
        place = start + size
    return given

"""The document's words searched plainly, over sets of facts and by trying out all moves.

It shares nothing with the program: what is so is a frozenset, and forcing is asked for each number of
moves by itself, as the document words it.
"""

from functools import lru_cache


def facts_of(number):
    return frozenset(k for k in range(4) if number // 2 ** k % 2 == 1)


def number_of(so):
    return sum(2 ** k for k in so)


class PlainHouse:
    def __init__(self, facts, wants, may, acts):
        self.facts = facts
        self.wants = [facts_of(wanted) for wanted in wants]
        self.may = may
        self.acts = [(told[0], *[facts_of(so) for so in told[1:]]) for told in acts]
        self.longest = 2 * 2 ** facts
        # Kept by the object, so that it goes with it.
        self.can_force = lru_cache(maxsize=None)(self.can_force_plainly)

    def won(self, so, turn):
        there = [who for who in (0, 1) if self.wants[who] <= so]
        if len(there) == 2:
            there.remove(turn)
        return there[0] if there else None

    def moves(self, so, turn):
        """Each move's number with the state behind it."""
        if self.won(so, turn) is not None:
            return []
        found = []
        for number, (whose, needs, bars, brings, takes) in enumerate(self.acts):
            if whose == turn and needs <= so and not bars & so:
                found.append((number, (so - takes) | brings, 1 - turn))
        if self.may[turn]:
            found.append((len(self.acts), so, 1 - turn))
        return found

    def can_force_plainly(self, who, so, turn, left):
        """Whether that one has won after so many moves at the latest, whatever the other one moves."""
        won = self.won(so, turn)
        if won is not None:
            return won == who
        moves = self.moves(so, turn)
        if left == 0 or not moves:
            return False
        kept = [self.can_force(who, behind, other, left - 1) for number, behind, other in moves]
        return any(kept) if turn == who else all(kept)

    def fewest(self, who, so, turn):
        """The least number of moves in which that one can force it; None if they can't."""
        for left in range(self.longest + 1):
            if self.can_force(who, so, turn, left):
                return left
        return None

    def value(self, so, turn):
        for who in (0, 1):
            least = self.fewest(who, so, turn)
            if least is not None:
                return [who + 1, least]
        return [0, 0]

    def best(self, so, turn):
        moves = self.moves(so, turn)
        if not moves:
            return [-5]
        own = [(self.fewest(turn, *state), number) for number, *state in moves]
        own = [pair for pair in own if pair[0] is not None]
        if own:
            return [min(own)[1], len(moves)]
        others = [(self.fewest(1 - turn, *state), number) for number, *state in moves]
        safe = [number for least, number in others if least is None]
        if safe:
            return [min(safe), len(moves)]
        return [min((-least, number) for least, number in others)[1], len(moves)]

    def move(self, so, turn, number):
        """The state behind a move; None if it's none of the moves."""
        for known, behind, other in self.moves(so, turn):
            if known == number:
                return behind, other
        return None

    def line(self, so, turn, most):
        made = []
        state = (so, turn)
        while len(made) < most:
            told = self.best(*state)
            if told == [-5]:
                break
            made.append(told[0])
            state = self.move(*state, told[0])
        return [len(made), *made]

    def counts(self):
        found = [0, 0, 0]
        for number in range(2 ** self.facts):
            for turn in (0, 1):
                who = self.value(facts_of(number), turn)[0]
                found[{1: 0, 2: 1, 0: 2}[who]] += 1
        return found

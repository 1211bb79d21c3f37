"""How the two move, and who of them can force what they want from which state.

A state is one number: twice what's so, and one more if it's the second one's turn.
"""


class Act:
    """Something that one of the two may do; told are its five numbers."""

    def __init__(self, told):
        self.whose = told[0]
        self.needs = told[1]
        self.bars = told[2]
        self.brings = told[3]
        self.takes = told[4]


class Game:
    """What stays as it is while the two move; wants and may_pass have a number for each of them."""

    def __init__(self, facts, wants, may_pass):
        self.facts = facts
        self.wants = wants
        self.may_pass = may_pass
        self.acts = []


def state_of(so, turn):
    return 2 * so + turn


def count_of_states(game):
    return 2 * (1 << game.facts)


def are_facts(facts, so):
    """Whether a set has none but the first so many facts."""
    return so >> facts == 0


def winner(game, state):
    """1 or 2, if the first or the second has won; else 0."""
    so = state // 2
    first = so & game.wants[0] == game.wants[0]
    second = so & game.wants[1] == game.wants[1]
    if first and second:
        # Whose turn it isn't has moved last, and so got there.
        return 2 - state % 2
    if first:
        return 1
    if second:
        return 2
    return 0


def may_be_done(act, state):
    so = state // 2
    return act.whose == state % 2 and so & act.needs == act.needs and so & act.bars == 0


def moves_in(game, state):
    """The moves there, rising; none where somebody has won."""
    if winner(game, state) != 0:
        return []
    moves = [number for number in range(len(game.acts)) if may_be_done(game.acts[number], state)]
    if game.may_pass[state % 2] == 1:
        moves.append(len(game.acts))
    return moves


def state_behind(game, state, move):
    so = state // 2
    if move < len(game.acts):
        act = game.acts[move]
        # Bringing comes last, so that a fact that is taken away and brought is so.
        so = (so & ~act.takes) | act.brings
    return state_of(so, 1 - state % 2)


def states_behind(game, state):
    return [state_behind(game, state, move) for move in moves_in(game, state)]


def is_forced(following, own_turn, steps):
    """Whether one step leads into the states of steps: by a move of one's own, or by all of the other's."""
    inside = [state in steps for state in following]
    if own_turn:
        return any(inside)
    # Without a move nothing happens any more, and nobody wins.
    return len(inside) > 0 and all(inside)


def forced_by(game, who):
    """For each state from which the first (0) or the second (1) can force it: in how few moves."""
    total = count_of_states(game)
    following = [states_behind(game, state) for state in range(total)]
    steps = {}
    for state in range(total):
        if winner(game, state) == who + 1:
            steps[state] = 0
    # Each round but the last adds a state, so there are fewer rounds than states.
    for count in range(1, total):
        fresh = [state for state in range(total)
                 if state not in steps and is_forced(following[state], state % 2 == who, steps)]
        if len(fresh) == 0:
            break
        for state in fresh:
            steps[state] = count
    return steps


def forced_by_each(game):
    """What the first can force, then what the second can."""
    return (forced_by(game, 0), forced_by(game, 1))


def best_move(game, state, forced):
    """The best move of a state that has one; forced is what forced_by_each tells of the game."""
    moves = moves_in(game, state)
    own = forced[state % 2]
    others = forced[1 - state % 2]
    winning = [move for move in moves if state_behind(game, state, move) in own]
    # Moves rise, and of equals min and max take the first: that is the lowest.
    if len(winning) > 0:
        return min(winning, key=lambda move: own[state_behind(game, state, move)])
    safe = [move for move in moves if state_behind(game, state, move) not in others]
    if len(safe) > 0:
        return safe[0]
    return max(moves, key=lambda move: others[state_behind(game, state, move)])


def best_line(game, state, most):
    """The moves from a state on, if both always make the best one: till there's none, or so many."""
    # No move changes who can force what from where, so one search serves the whole line.
    forced = forced_by_each(game)
    made = []
    while len(made) < most and len(moves_in(game, state)) > 0:
        move = best_move(game, state, forced)
        made.append(move)
        state = state_behind(game, state, move)
    return made

"""A whole list of calls answered by the plain search, with the document's refusals written out on their own."""

from plain_search import PlainHouse, facts_of, number_of


class PlainSession:
    def __init__(self):
        self.start(1, (1, 1), (0, 0))

    def start(self, facts, wants, may):
        self.facts = facts
        self.wants = wants
        self.may = may
        self.acts = []
        self.so = frozenset()
        self.turn = 0
        self.plain = None

    def house(self):
        """Kept till an act is told, as the search is slow."""
        if self.plain is None:
            self.plain = PlainHouse(self.facts, self.wants, self.may, self.acts)
        return self.plain

    def answer_to(self, call):
        names = ("begins", "act", "at", "value", "best", "line", "move", "answer", "counts")
        rest = call[2:] if call[0] == 1 else call[1:]
        return getattr(self, names[call[0]])(*rest)

    def there(self, *sets):
        return all(number < 2 ** self.facts for number in sets)

    def begins(self, facts, first_wants, second_wants, first_may, second_may):
        if facts not in (1, 2, 3, 4) or first_may not in (0, 1) or second_may not in (0, 1):
            return [-1]
        if not 1 <= first_wants < 2 ** facts or not 1 <= second_wants < 2 ** facts:
            return [-1]
        self.start(facts, (first_wants, second_wants), (first_may, second_may))
        return [0]

    def act(self, *told):
        if len(self.acts) == 10:
            return [-7]
        if len(told) != 5 or told[0] not in (0, 1) or not self.there(*told[1:]):
            return [-1]
        self.acts.append(told)
        self.plain = None
        return [len(self.acts) - 1]

    def at(self, so, turn):
        if turn not in (0, 1) or not self.there(so):
            return [-1]
        self.so = facts_of(so)
        self.turn = turn
        return [self.who_won()]

    def who_won(self):
        return {None: 0, 0: 1, 1: 2}[self.house().won(self.so, self.turn)]

    def value(self):
        return self.house().value(self.so, self.turn)

    def best(self):
        return self.house().best(self.so, self.turn)

    def line(self, most):
        if most > 40:
            return [-1]
        return self.house().line(self.so, self.turn, most)

    def move(self, k):
        behind = self.house().move(self.so, self.turn, k)
        if behind is None:
            return [-5]
        self.so, self.turn = behind
        return [self.who_won(), number_of(self.so), self.turn]

    def answer(self):
        told = self.best()
        if told == [-5]:
            return [-5]
        return [told[0], *self.move(told[0])]

    def counts(self):
        return self.house().counts()


def plain_answers(calls):
    """What each call answers, as a list of lists."""
    session = PlainSession()
    return [session.answer_to(call) for call in calls]

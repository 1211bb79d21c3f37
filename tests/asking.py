"""Writes calls as the document's interface has them, and reads what is answered."""

from againstother.house import answers

TOP = 4294967295
SEARCHING = (3, 4, 5, 7, 8)


def begins(facts, first_wants, second_wants, first_may=0, second_may=0):
    return [0, facts, first_wants, second_wants, first_may, second_may]


def act(*told):
    return [1, len(told), *told]


def at(so, turn):
    return [2, so, turn]


def value():
    return [3]


def best():
    return [4]


def line(most):
    return [5, most]


def move(k):
    return [6, k]


def answer():
    return [7]


def counts():
    return [8]


def in_bounds(calls, numbers):
    """Whether the document lets these calls be handed in together."""
    searching = sum(1 for call in calls if call[0] in SEARCHING)
    return 1 <= len(calls) <= 60 and searching <= 12 and len(numbers) <= 480


def split(given):
    """One list of numbers for each call; they must come out even."""
    rows = []
    place = 0
    while place < len(given):
        size = given[place]
        row = given[place + 1:place + 1 + size]
        if size < 1 or len(row) != size:
            raise AssertionError(f"what is given back doesn't come out even: {given}")
        rows.append(row)
        place += 1 + size
    return rows


def ask(*calls):
    """What each call answers, as a list of lists."""
    numbers = [number for call in calls for number in call]
    if not in_bounds(calls, numbers):
        raise AssertionError("no such list of calls is asked")
    rows = split(answers(numbers))
    if len(rows) != len(calls):
        raise AssertionError(f"{len(calls)} calls, {len(rows)} answers")
    return rows


def last(*calls):
    """What the last call answers."""
    return ask(*calls)[-1]

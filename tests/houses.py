"""Small houses by chance, for the tests that look at many of them."""

from asking import act, begins


def small_set(chance, facts):
    """Mostly few facts, so that acts can be done and more than one is needed."""
    return chance.randrange(2 ** facts) & chance.randrange(2 ** facts)


def house_by_chance(chance):
    """How many facts, what each one wants, who may let a turn pass, and the acts."""
    facts = chance.randrange(1, 5)
    wants = [chance.randrange(1, 2 ** facts) | small_set(chance, facts) for who in (0, 1)]
    may = [chance.randrange(2), chance.randrange(2)]
    acts = []
    for number in range(chance.randrange(11)):
        sets = [small_set(chance, facts) & chance.randrange(2 ** facts) for k in range(2)]
        sets += [small_set(chance, facts) for k in range(2)]
        acts.append([chance.randrange(2), *sets])
    return facts, wants, may, acts


def written(facts, wants, may, acts):
    """The calls that make such a house."""
    return [begins(facts, *wants, *may)] + [act(*numbers) for numbers in acts]

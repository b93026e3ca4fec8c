"""Programs by the hundred, always the same ones, for what holds of every program."""

import random

NAMES = ("a", "b", "c", "n", "t")
SIGNS = ("+", "-", "*", "<", "/")
BLOCKS = ("when", "loop", "again")
NUMBERS = (0, 0, 1, 2, 3, 7, 999999)


def some_worth(chance, names):
    return chance.choice(names) if chance.random() < 0.65 else chance.choice(NUMBERS)


def some_let(chance, names):
    return ("let", chance.choice(names), chance.choice(SIGNS), some_worth(chance, names), some_worth(chance, names))


def some_block(chance, names, depth):
    """A block of any kind; often one that counts down its test, so that it goes round a few times."""
    word, test = chance.choice(BLOCKS), chance.choice(names)
    rows = some_rows(chance, names, depth - 1)
    if chance.random() < 0.5:
        rows.append(("let", test, "-", test, 1))
    if chance.random() < 0.2:
        rows.insert(0, ("let", test, "<", test, chance.choice(NUMBERS)))
    return (word, test, rows)


def some_rows(chance, names, depth):
    rows = []
    for _ in range(chance.randrange(5)):
        kind = chance.random()
        if kind < 0.55:
            rows.append(some_let(chance, names))
        elif kind < 0.7 or depth == 0:
            rows.append(("say", some_worth(chance, names)))
        else:
            rows.append(some_block(chance, names, depth))
    return rows


def programs(many, seed):
    """So many programs, of a few names each, up to four blocks deep."""
    chance = random.Random(seed)
    found = []
    for _ in range(many):
        names = chance.sample(NAMES, chance.randrange(2, 6))
        found.append(some_rows(chance, names, chance.randrange(5)) + some_rows(chance, names, 2))
    return found


def givens(seed):
    """Some values for the names, from none at all to all of them."""
    chance = random.Random(seed)
    some = {name: chance.choice(NUMBERS) for name in NAMES if chance.random() < 0.6}
    return [{}, some, {name: chance.choice((1, 2, 3)) for name in NAMES}]


def lists_in(rows):
    """All lists of a program, itself and those of its blocks."""
    found = [rows]
    for row in rows:
        if row[0] in BLOCKS:
            found.extend(lists_in(row[2]))
    return found


def spoil(rows):
    """Changes every list of a program."""
    for part in lists_in(rows):
        part.append("spoilt")
        part[0] = "spoilt"

"""Programs that several tests try, made up the same way each time; and what they tell when they are run."""

import random

from regpress.codes import run_code
from regpress.errors import Stuck
from regpress.programs import run
from rows import END

WORDS = ("plus", "minus", "times")


def made_row(chance, names):
    kind = chance.choice(("set", "input", "op", "op", "tell"))
    if kind == "set":
        return ("set", chance.choice(names), chance.choice((0, 1, -1, 2, 1000003, 77)))
    if kind == "input":
        return ("input", chance.choice(names), chance.randrange(3))
    if kind == "op":
        return ("op", chance.choice(WORDS), chance.choice(names), chance.choice(names), chance.choice(names))
    return ("tell", chance.choice(names))


def made_end(chance, names, blocks):
    kind = chance.choice(("go", "if", "if", "end"))
    if kind == "go":
        return ("go", chance.randrange(blocks))
    if kind == "if":
        return ("if", chance.choice(names), chance.randrange(blocks), chance.randrange(blocks))
    return END


# Programs in which names may be read that have no value.
def made_program(seed, names=4, blocks=4, deeds=3):
    chance = random.Random(seed)
    those = chance.sample(range(24), names)
    many = chance.randint(1, blocks)
    made = []
    for number in range(many):
        rows = [made_row(chance, those) for row in range(chance.randint(0, deeds))]
        made.append((rows, made_end(chance, those, many)))
    return made


# Programs in which block 0 gives each name a value ahead of all else, so that none is wanted at its beginning.
def fair_program(seed, names, blocks, deeds):
    chance = random.Random(seed)
    those = chance.sample(range(24), names)
    first = [("input", v, n % 3) if n % 2 else ("set", v, n + 5) for n, v in enumerate(those)]
    made = []
    for number in range(blocks):
        start = first if number == 0 else []
        rows = start + [made_row(chance, those) for row in range(deeds - len(start))]
        made.append((rows, made_end(chance, those, blocks)))
    return made


def names_of(blocks):
    found = set()
    for deeds, end in blocks:
        for row in deeds + [end]:
            spots = {"set": row[1:2], "input": row[1:2], "op": row[2:], "tell": row[1:], "if": row[1:2]}
            found.update(spots.get(row[0], ()))
    return found


def answer(job, *given):
    try:
        return job(*given)
    except Stuck:
        return "stuck"


def tells_the_same(blocks, code, pans):
    for inputs in ([], [0, 0, 0], [1, 2, 3], [5], [1000003, -1, 0], [999999999999999, 7, -999999999999999]):
        for most in (-1, 0, 1, 2, 5, 9, 30, 31, 200):
            wanted = answer(run, blocks, inputs, most)
            if wanted != answer(run_code, code, pans, inputs, most):
                return False
    return True

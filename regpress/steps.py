"""What programs and code have in common: the forms of deeds and ends, and the run."""

from regpress.errors import BadProgram, Stuck

ROUND = 1000003
MOST_BLOCKS = 12
WORDS = ("plus", "minus", "times")
DEED_SIZES = {"set": 3, "input": 3, "op": 5, "tell": 2}
END_SIZES = {"go": 2, "if": 4, "end": 1}
GIVEN_SPOTS = {"set": (1,), "input": (1,), "op": (2,), "tell": (), "go": (), "if": (), "end": ()}
READ_SPOTS = {"set": (), "input": (), "op": (3, 4), "tell": (1,), "go": (), "if": (1,), "end": ()}
BLOCK_SPOTS = {"go": (1,), "if": (2, 3), "end": ()}


def is_move(deed):
    return deed[:1] == ("move",)


# A row is a deed or an end: both have a kind, and names (places, in code) at some spots. What asks for a row's
# names takes no moves, as what they stand for is another matter.
def rows_of(block):
    return block[0] + [block[1]]


def given_in(row):
    return [row[spot] for spot in GIVEN_SPOTS[row[0]]]


def read_in(row):
    return [row[spot] for spot in READ_SPOTS[row[0]]]


def without_names(row):
    spots = GIVEN_SPOTS[row[0]] + READ_SPOTS[row[0]]
    return [part for spot, part in enumerate(row) if spot not in spots]


def with_names(row, given, read):
    parts = list(row)
    for spot, name in zip(GIVEN_SPOTS[row[0]], given):
        parts[spot] = name
    for spot, name in zip(READ_SPOTS[row[0]], read):
        parts[spot] = name
    return tuple(parts)


def ways_on(end):
    return [end[spot] for spot in BLOCK_SPOTS[end[0]]]


def check_sizes(blocks, most_deeds):
    if len(blocks) < 1 or len(blocks) > MOST_BLOCKS:
        raise BadProgram(f"there must be 1 to {MOST_BLOCKS} blocks")
    for number, block in enumerate(blocks):
        if len(block[0]) > most_deeds:
            raise BadProgram(f"block {number}: more than {most_deeds} deeds")


# Moves are no deeds here: a program has none, and code's own are checked apart.
def check_rows(blocks, names):
    for number, block in enumerate(blocks):
        for deed in block[0]:
            check_deed(deed, names, number)
        check_end(block[1], names, len(blocks), number)


def check_deed(deed, names, number):
    if len(deed) == 0 or DEED_SIZES.get(deed[0]) != len(deed):
        raise BadProgram(f"block {number}: a deed that is none")
    if deed[0] == "op" and deed[1] not in WORDS:
        raise BadProgram(f"block {number}: a word that is none")
    if deed[0] == "input" and deed[2] < 0:
        raise BadProgram(f"block {number}: an input that is none")
    check_names(deed, names, number)


def check_end(end, names, block_count, number):
    if len(end) == 0 or END_SIZES.get(end[0]) != len(end):
        raise BadProgram(f"block {number}: an end that is none")
    check_names(end, names, number)
    for block in ways_on(end):
        if block < 0 or block >= block_count:
            raise BadProgram(f"block {number}: its end names a block that is none")


def check_names(row, names, number):
    for name in given_in(row) + read_in(row):
        if name < 0 or name >= names:
            raise BadProgram(f"block {number}: a name that is none, or may not stand there")


# A run that is back where it was goes round for ever. It is found out here, as no one could wait
# for the end of a run of which very many deeds are asked for. The mark is set anew at distances
# that double: so one mark is enough for rounds of any length.
class RoundWatch:
    def __init__(self):
        self.distance = 1
        self.left = 1
        self.block = 0
        self.held = {}

    def is_back(self, block, held):
        if block == self.block and held == self.held:
            return True
        self.left = self.left - 1
        if self.left == 0:
            self.distance = self.distance * 2
            self.left = self.distance
            self.block = block
            self.held = dict(held)
        return False


# The blocks must have been checked.
def run_blocks(blocks, inputs, most):
    held = {}
    told = []
    done = 0
    number = 0
    watch = RoundWatch()
    while True:
        for deed in blocks[number][0]:
            if not is_move(deed):
                if done >= most:
                    return None
                done = done + 1
            do_deed(deed, held, inputs, told)
        if done >= most:
            return None
        done = done + 1
        number = block_after(blocks[number][1], held)
        if number is None:
            return (told, done)
        if watch.is_back(number, held):
            return None


def do_deed(deed, held, inputs, told):
    kind = deed[0]
    if kind == "move":
        held[deed[1]] = held.get(deed[2])
    elif kind == "set":
        held[deed[1]] = deed[2] % ROUND
    elif kind == "input":
        held[deed[1]] = input_at(inputs, deed[2])
    elif kind == "op":
        held[deed[2]] = put_together(deed[1], value_of(held, deed[3]), value_of(held, deed[4]))
    else:
        told.append(value_of(held, deed[1]))


def block_after(end, held):
    if end[0] == "end":
        return None
    if end[0] == "go":
        return end[1]
    return end[2] if value_of(held, end[1]) != 0 else end[3]


def value_of(held, name):
    value = held.get(name)
    if value is None:
        raise Stuck(f"{name} has no value")
    return value


def input_at(inputs, place):
    if place >= len(inputs):
        raise Stuck(f"input {place} is not there")
    return inputs[place] % ROUND


def put_together(word, a, b):
    if word == "plus":
        return (a + b) % ROUND
    if word == "minus":
        return (a - b) % ROUND
    return a * b % ROUND

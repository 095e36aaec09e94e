"""Code: what it is for so many pans, and how it is run."""

from regpress.errors import BadPans, BadProgram
from regpress.steps import check_rows, check_sizes, is_move, run_blocks

FEWEST_PANS = 2
MOST_PANS = 16
MOST_DEEDS = 400
PLACES = 60


def check_pans(pans):
    if pans < FEWEST_PANS or pans > MOST_PANS:
        raise BadPans(f"there must be {FEWEST_PANS} to {MOST_PANS} pans")


# Without its moves, code is held to what a program is held to, with the pans as its names.
def check_code(code, pans):
    check_pans(pans)
    check_sizes(code, MOST_DEEDS)
    for number, block in enumerate(code):
        for move in moves_in(block):
            check_move(move, pans, number)
    check_rows(without_moves(code), pans)


def check_move(move, pans, number):
    if len(move) != 3:
        raise BadProgram(f"block {number}: a move that is none")
    for place in move[1:]:
        if place < 0 or place >= PLACES:
            raise BadProgram(f"block {number}: a place that is none")
    if move[1] >= pans and move[2] >= pans:
        raise BadProgram(f"block {number}: a move from shelf to shelf")


def moves_in(block):
    return [deed for deed in block[0] if is_move(deed)]


def without_moves(code):
    bare = []
    for block in code:
        bare.append(([deed for deed in block[0] if not is_move(deed)], block[1]))
    return bare


def run_code(code, pans, inputs, most):
    check_code(code, pans)
    return run_blocks(code, inputs, most)


def moves(code):
    return sum([len(moves_in(block)) for block in code])

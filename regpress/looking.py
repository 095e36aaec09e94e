"""The looker: whether code, whoever made it, does what the program does."""

from regpress.codes import check_code, without_moves
from regpress.programs import check_program
from regpress.steps import given_in, is_move, read_in, rows_of, ways_on, without_names


# The program is looked at ahead of the pans, and the pans ahead of the code: so the refusals come in their order.
def passes(blocks, code, pans):
    check_program(blocks)
    check_code(code, pans)
    return has_shape(blocks, code) and reads_what_is_held(blocks, code)


def has_shape(blocks, code):
    return [shape_of(block) for block in blocks] == [shape_of(block) for block in without_moves(code)]


def shape_of(block):
    return [without_names(row) for row in rows_of(block)]


# What is held is kept as a dict from places to names. One name a place is enough: on no way from the
# program's beginning does a place hold two, as a deed leaves it one alone and a move brings what one place holds.
def reads_what_is_held(blocks, code):
    pairs = [side_by_side(block, code_block) for block, code_block in zip(blocks, code)]
    beginnings = held_at_beginnings(blocks, pairs)
    return all([reads_of_block_are_held(pairs[number], beginnings[number]) for number in beginnings])


# Both must have the same shape. A move has nothing beside it.
def side_by_side(block, code_block):
    rows = rows_of(block)
    pairs = []
    at = 0
    for code_row in rows_of(code_block):
        if is_move(code_row):
            pairs.append((None, code_row))
        else:
            pairs.append((rows[at], code_row))
            at = at + 1
    return pairs


# A block that no way has led to yet is not in the dict: so the first way brings all that it holds, and each
# later one can but take away. What is left at last is as much as can be, and blocks that cannot be come to
# have no say in it.
def held_at_beginnings(blocks, pairs):
    beginnings = {0: {}}
    to_do = [0]
    while len(to_do) > 0:
        number = to_do.pop()
        held = held_at_end(pairs[number], beginnings[number])
        for block in ways_on(blocks[number][1]):
            before = beginnings.get(block)
            now = held if before is None else held_in_both(before, held)
            if now != before:
                beginnings[block] = now
                to_do.append(block)
    return beginnings


def held_in_both(first, second):
    both = {}
    for place, name in first.items():
        if second.get(place) == name:
            both[place] = name
    return both


def held_at_end(pairs, beginning):
    held = dict(beginning)
    for row, code_row in pairs:
        take_note(row, code_row, held)
    return held


def reads_of_block_are_held(pairs, beginning):
    held = dict(beginning)
    for row, code_row in pairs:
        if not reads_are_held(row, code_row, held):
            return False
        take_note(row, code_row, held)
    return True


# What a move reads need hold nothing.
def reads_are_held(row, code_row, held):
    if is_move(code_row):
        return True
    return all([held.get(place) == name for name, place in zip(read_in(row), read_in(code_row))])


def take_note(row, code_row, held):
    if is_move(code_row):
        note_move(code_row[1], code_row[2], held)
    else:
        for name, place in zip(given_in(row), given_in(code_row)):
            note_given(name, place, held)


def note_move(place, source, held):
    if source in held:
        held[place] = held[source]
    else:
        held.pop(place, None)


# Elsewhere the name's former value still lies, which is the name's no more.
def note_given(name, place, held):
    for other in list(held):
        if held[other] == name:
            held.pop(other)
    held[place] = name

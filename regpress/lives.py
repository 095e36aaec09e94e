"""Which names are wanted at the beginning of each block."""

from regpress.programs import check_program
from regpress.steps import given_in, read_in, rows_of, ways_on


# A name is wanted only where some way reads it. So one begins with none at all, and looks again
# until no block learns anything more from those that it leads to.
def living(blocks):
    check_program(blocks)
    wanted = [[] for block in blocks]
    while True:
        again = [wanted_at_beginning(block, wanted) for block in blocks]
        if again == wanted:
            return again
        wanted = again


# An op reads ahead of giving. Going backwards, what a row reads is therefore put in last.
def wanted_at_beginning(block, wanted):
    names = []
    for number in ways_on(block[1]):
        names = names + wanted[number]
    for row in reversed(rows_of(block)):
        names = sorted(set(names) - set(given_in(row)) | set(read_in(row)))
    return names

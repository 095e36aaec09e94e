"""Programs put into pans."""

from regpress.codes import check_pans
from regpress.errors import BadProgram
from regpress.lives import living
from regpress.steps import given_in, read_in, rows_of, with_names

# As many as a deed reads at the most: where names lie on the shelf, the last pans are kept free for them.
PASSING = 2


# Each name has one home in all blocks, and is there between any two deeds: so it does not matter on which
# way a block is come to.
def pressed(blocks, pans):
    if len(living(blocks)[0]) > 0:
        raise BadProgram("a name is wanted at the beginning of block 0")
    check_pans(pans)
    homes = homes_of(blocks, pans)
    return [pressed_block(block, homes, pans) for block in blocks]


def homes_of(blocks, pans):
    names = names_by_use(blocks)
    in_pans = pans if len(names) <= pans else pans - PASSING
    homes = {}
    for rank, name in enumerate(names):
        homes[name] = rank if rank < in_pans else pans + rank - in_pans
    return homes


# The names that stand most often come first, as a home in a pan spares their moves.
def names_by_use(blocks):
    uses = {}
    for block in blocks:
        for row in rows_of(block):
            for name in given_in(row) + read_in(row):
                uses[name] = uses.get(name, 0) + 1
    return sorted(uses, key=lambda name: (-uses[name], name))


# An end gives no name a value, so nothing has to be brought home behind it.
def pressed_block(block, homes, pans):
    rows = []
    for row in rows_of(block):
        rows.extend(pressed_row(row, homes, pans))
    return (rows[:-1], rows[-1])


def pressed_row(row, homes, pans):
    fetched = fetched_for(row, homes, pans)
    fetching = [("move", pan, homes[name]) for name, pan in fetched.items()]
    read = [fetched.get(name, homes[name]) for name in read_in(row)]
    given = [homes[name] if homes[name] < pans else pans - 1 for name in given_in(row)]
    bringing = [("move", homes[name], pans - 1) for name in given_in(row) if homes[name] >= pans]
    return fetching + [with_names(row, given, read)] + bringing


# A name that is read twice is fetched once.
def fetched_for(row, homes, pans):
    fetched = {}
    for name in read_in(row):
        if homes[name] >= pans and name not in fetched:
            fetched[name] = pans - PASSING + len(fetched)
    return fetched

"""Programs: what they are, and how they are run."""

from regpress.steps import check_rows, check_sizes, run_blocks

MOST_DEEDS = 30
NAMES = 24


def check_program(blocks):
    check_sizes(blocks, MOST_DEEDS)
    check_rows(blocks, NAMES)


def run(blocks, inputs, most):
    check_program(blocks)
    return run_blocks(blocks, inputs, most)

"""Deeds and ends that the tests of programs and of code both try."""

END = ("end",)
TOP = 1000002
HUGE = 999999999999999

# For each spot where a name (a place, in code, but for moves) stands: the deed and the end that have it there.
NAME_SPOTS = {
    "set": lambda v: (("set", v, 1), ("go", 1)),
    "input": lambda v: (("input", v, 0), ("go", 1)),
    "op, given": lambda v: (("op", "plus", v, 0, 0), ("go", 1)),
    "op, first read": lambda v: (("op", "plus", 0, v, 0), ("go", 1)),
    "op, second read": lambda v: (("op", "plus", 0, 0, v), ("go", 1)),
    "tell": lambda v: (("tell", v), ("go", 1)),
    "if": lambda v: (("tell", 0), ("if", v, 1, 1)),
}

# For each spot where a block's number stands: the end that has the number there and goes there.
BLOCK_SPOTS = {
    "go": lambda n: ("go", n),
    "if, not 0": lambda n: ("if", 1, n, 0),
    "if, 0": lambda n: ("if", 0, 0, n),
}

# Deeds and ends that are stuck on no inputs where name 0 alone has a value.
STUCK_ROWS = {
    "input": (("input", 0, 0), END),
    "op, first read": (("op", "plus", 0, 1, 0), END),
    "op, second read": (("op", "times", 0, 0, 1), END),
    "tell": (("tell", 1), END),
    "if": (None, ("if", 1, 0, 0)),
}

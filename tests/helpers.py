"""What several files of tests need."""

EXAMPLE = """in a b c
out sum carry
t = xor a b
sum = xor t c
carry = maj a b c    # two of three
old = reg sum
"""
KINDS = {
    "zero": 0, "one": 0,
    "not": 1, "buf": 1, "reg": 1, "reg1": 1,
    "and": 2, "or": 2, "xor": 2, "nand": 2, "nor": 2, "xnor": 2,
    "maj": 3, "mux": 3,
}
GIVES = {
    "zero": lambda: False,
    "one": lambda: True,
    "not": lambda a: not a,
    "buf": lambda a: a,
    "and": lambda a, b: a and b,
    "or": lambda a, b: a or b,
    "xor": lambda a, b: a != b,
    "nand": lambda a, b: not (a and b),
    "nor": lambda a, b: not (a or b),
    "xnor": lambda a, b: a == b,
    "maj": lambda a, b, c: [a, b, c].count(True) >= 2,
    "mux": lambda s, a, b: a if s else b,
}
MOST_BYTES = 65536


def bytes_of(text):
    return list(text.encode("latin-1"))


def wide_names(how_many):
    """That many names, an input and gates on it, no chain longer than 1."""
    return "in a\n" + "".join(f"g{k} = not a\n" for k in range(how_many - 1))


def names(how_many):
    return " ".join(f"n{k}" for k in range(how_many))


def numbers_from(seed):
    """Numbers below 65536 in a fixed order, for networks that look like any."""
    state = seed
    while True:
        state = (state * 6364136223846793005 + 1442695040888963407) % 2 ** 64
        yield state >> 48


NO_NETWORKS = (
    "in", "out x", "x = not x\n", "in a a\n", "in a\nout b\n", "in a\nx = and a\n", "x= one\n", "in A\n", "\x00",
    "in a\nx = reg b\n", "in a\na = reg a\n", "x = not y\ny = not x\nout x\n", "in " + names(65),
    "\n" * (MOST_BYTES + 1), "out" + " a" * 65 + "\nin a\n", wide_names(1025),
)

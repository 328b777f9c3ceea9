"""What several files of tests need."""

EXAMPLE = """in a b c
out sum carry
t = xor a b
sum = xor t c
carry = maj a b c    # two of three
old = reg sum
"""
KINDS = {
    "zero": 0, "one": 0,
    "not": 1, "buf": 1, "reg": 1, "reg1": 1,
    "and": 2, "or": 2, "xor": 2, "nand": 2, "nor": 2, "xnor": 2,
    "maj": 3, "mux": 3,
}
MOST_BYTES = 65536


def bytes_of(text):
    return list(text.encode("latin-1"))


def wide_names(how_many):
    """That many names, an input and gates on it, no chain longer than 1."""
    return "in a\n" + "".join(f"g{k} = not a\n" for k in range(how_many - 1))


def names(how_many):
    return " ".join(f"n{k}" for k in range(how_many))

"""Deeds as tuples, and houses that do them."""

# How many items the tuple of a deed has, by its first one.
LENGTHS = {"put": 3, "strike": 2, "mend": 3, "move": 3, "fold": 2, "learn": 3, "drop": 2, "undo": 1}


def is_deed(value):
    """Whether a value is a tuple of as many items as a deed has that begins as it does."""
    if not isinstance(value, tuple) or len(value) == 0 or not isinstance(value[0], str):
        return False
    return value[0] in LENGTHS and len(value) == LENGTHS[value[0]]


def do_deed(house, deed):
    """Let a house do a deed."""
    word = deed[0]
    if word == "put":
        house.put(deed[1], deed[2])
    elif word == "strike":
        house.strike(deed[1])
    elif word == "mend":
        house.mend(deed[1], deed[2])
    elif word == "move":
        house.move(deed[1], deed[2])
    elif word == "fold":
        house.fold(deed[1])
    elif word == "learn":
        house.learn(deed[1], deed[2])
    elif word == "drop":
        house.drop(deed[1])
    else:
        house.undo()

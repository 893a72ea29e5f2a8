"""How the calls stand in the list of whole numbers that is handed in."""

# For each call: how many whole numbers it has, and whether a row stands behind them.
SHAPES = {
    0: (2, False),
    1: (1, True),
    2: (1, True),
    3: (0, True),
    4: (0, False),
    5: (0, False),
    6: (0, False),
    7: (0, False),
    8: (0, False),
    9: (0, True),
    10: (0, False),
    11: (0, False),
    12: (0, False),
    13: (1, False),
    14: (0, False),
    15: (0, False),
    16: (0, False),
}


def read_calls(calls):
    """Tell each call as its number, the list of its whole numbers, and its row (empty if it has none)."""
    found = []
    place = 0
    while place < len(calls):
        number = calls[place]
        shape = SHAPES[number]
        behind = place + 1 + shape[0]
        numbers = calls[place + 1:behind]
        row = []
        place = behind
        if shape[1]:
            place = behind + 1 + calls[behind]
            row = calls[behind + 1:place]
        found.append((number, numbers, row))
    return found

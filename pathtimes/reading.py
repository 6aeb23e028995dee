"""How calls are written one behind another in a list of whole numbers."""

# For each call by its number: how many whole numbers it has, and how many rows come behind them.
WHOLE_NUMBERS = (1, 2, 3, 2, 0, 1, 1, 0)
ROWS = (0, 0, 0, 0, 1, 2, 2, 2)


def read_calls(calls):
    """Every call of the list: a tuple of its number, its whole numbers and its rows."""
    found = []
    place = 0
    while place < len(calls):
        number = calls[place]
        behind = place + 1 + WHOLE_NUMBERS[number]
        numbers = calls[place + 1:behind]
        rows = []
        for turn in range(ROWS[number]):
            first = behind + 1
            behind = first + calls[behind]
            rows.append(calls[first:behind])
        found.append((number, numbers, rows))
        place = behind
    return found

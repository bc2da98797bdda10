"""The numbers that lists of letters have where shorter lists come first, then lesser ones."""


def rank_of(row, letters):
    """The number of the row among all rows of the letters, which rise."""
    places = {letter: at for at, letter in enumerate(letters)}
    rank = 0
    for letter in row:
        rank = rank * len(letters) + places[letter] + 1
    return rank


def row_of(rank, letters):
    """The row of the letters, which rise, that has this number."""
    many = len(letters)
    row = []
    left = rank
    while left > 0:
        row.append(letters[(left - 1) % many])
        left = (left - 1) // many
    return row[::-1]


def rows_up_to(longest, many):
    """How many rows of at most so many letters there are, of so many letters to choose from."""
    rows = 0
    for _ in range(longest + 1):
        rows = rows * many + 1
    return rows

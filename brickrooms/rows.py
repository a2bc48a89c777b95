"""Eight rows of 64 places: bit x of row y is the place (x, y)."""

ROWS = 8
ROW_PLACES = 64
# 2 to the power of 64: each row is below it.
ROW_LIMIT = 18446744073709551616


def are_rows(numbers):
    return len(numbers) == ROWS and all([number < ROW_LIMIT for number in numbers])


def moved_rows(rows, dx, dy):
    """What is at (x, y) is at (x + dx, y + dy), dx below 64 and dy below 8; what would be beyond is gone."""
    kept = rows[:ROWS - dy]
    return [0] * dy + [(row << dx) % ROW_LIMIT for row in kept]


def places_in_both(first, second):
    """How many places are 1 in both."""
    return sum([ones_in(first[y] & second[y]) for y in range(ROWS)])


def ones_in(row):
    count = 0
    while row > 0:
        count += row % 2
        row //= 2
    return count

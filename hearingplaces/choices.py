"""Choosing places: as few as cover all ears.

What each place covers is told by a list of lists: of each place the numbers of its ears.
"""


def rising_rows(count):
    """The rows of rising numbers below count: the shorter ones first, of one length by their numbers."""
    newest = [()]
    rows = list(newest)
    for length in range(count):
        longer = []
        for row in newest:
            start = row[-1] + 1 if len(row) > 0 else 0
            for number in range(start, count):
                longer.append(row + (number,))
        rows.extend(longer)
        newest = longer
    return rows


def first_missed(row, covered, count):
    """The first of so many ears that no place of a row covers, or None."""
    for ear in range(count):
        if not any([ear in covered[place] for place in row]):
            return ear
    return None


def fewest(covered, count):
    """The first of the shortest rows of places that cover so many ears, or None if all places together don't."""
    for row in rising_rows(len(covered)):
        if first_missed(row, covered, count) is None:
            return list(row)
    return None

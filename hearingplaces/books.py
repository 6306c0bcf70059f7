"""Books: what is wrong with one, what gain a path has by it, and what level an energy has."""

BANDS = 4
AIR = 32
BOOK_NUMBERS = 36
WHOLE_PART = 32768
AIR_STEP = 1024
# The 32nd and the 48th power of 2.
NEAR_GAIN = 4294967296
LEVEL_ZERO = 281474976710656
NO_LEVEL = -100000


def book_fault(book):
    """How many numbers a book's list has, if not as many as it should; else the first too large one; or None."""
    if len(book) != BOOK_NUMBERS:
        return len(book)
    for place, part in enumerate(book):
        if part > WHOLE_PART:
            return place
    return None


def root(number):
    """The square root of a number from 0 on, rounded down."""
    guess = 1
    while guess * guess < number:
        guess = guess * 2
    # From above, each guess comes nearer until it would rise again.
    while guess * guess > number:
        guess = (guess + number // guess) // 2
    return guess


def parts_left(stuffs, square, band, book):
    """What walls of these stuffs and the air leave, part by part, on a path whose length has this square."""
    steps = root(square) // AIR_STEP
    return [book[BANDS * stuff + band] for stuff in stuffs] + [book[AIR + band]] * steps


def gain(stuffs, square, band, book):
    """The gain in a band of a path that turns at walls of these stuffs and whose length has this square."""
    left = NEAR_GAIN
    whole = 1
    for part in parts_left(stuffs, square, band, book):
        left = left * part
        whole = whole * WHOLE_PART
    # A length below 1 counts as 1. Twice the gain, rounded down, tells which whole number is the nearest.
    doubled = root(4 * left * left // (whole * whole * max(square, 1)))
    return (doubled + 1) // 2


def level_of(energy):
    """10 times the logarithm (to 10) of an energy over LEVEL_ZERO, rounded down; NO_LEVEL if there is no energy."""
    if energy == 0:
        return NO_LEVEL
    # A level more is the tenth root of 10 times as much: of the tenth powers it is 10 times, which is whole.
    power = energy ** 10
    bound = LEVEL_ZERO ** 10
    number = 0
    while bound * 10 <= power:
        bound = bound * 10
        number += 1
    while power < bound:
        power = power * 10
        number -= 1
    return number

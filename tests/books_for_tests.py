"""Books that several tests use."""

FULL = 32768


def make_book(back=FULL, air=FULL):
    """A book that tells one number of all stuffs in all bands, and one of the air."""
    return [back] * 32 + [air] * 4


def book_of(stuffs, band, air=FULL):
    """A book in which these stuffs alone, in this band alone, bring something back."""
    book = [0] * 32 + [0] * 4
    for stuff, part in stuffs.items():
        book[4 * stuff + band] = part
    book[32 + band] = air
    return book

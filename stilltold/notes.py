"""Notes: numbers with the deed and the place by which they came."""

from stilltold.plain import is_bit, is_row, is_whole


def is_note(thing):
    """Whether it is a note: (number, at, place)."""
    if not is_row(thing, 3, 3):
        return False
    number, at, place = thing
    return is_whole(number) and is_whole(at) and at >= 0 and is_bit(place)


def kth(things, k):
    """The k-th greatest, alike ones counted as often as they stand."""
    falling = sorted(things, reverse=True)
    # A k beyond the row is no error: nothing stands there.
    return falling[k - 1] if 1 <= k <= len(falling) else ()

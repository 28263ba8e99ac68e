"""Places and their numbers, ranges of places, and pieces of bytes at places."""

MODULUS = 4294967296
HALF = 2147483648


def number_of(base, place):
    """The number that stands for a place."""
    return (base + place) % MODULUS


def place_near(number, base, about):
    """The place nearest to another that a number tells, or None."""
    ahead = (number - base - about) % MODULUS
    if ahead >= HALF:
        ahead -= MODULUS
    place = about + ahead
    if place < 0:
        return None
    return place


def with_range(ranges, start, behind):
    """The ranges in order with one more; those that touch are one."""
    below = [one for one in ranges if one[1] < start]
    above = [one for one in ranges if one[0] > behind]
    touched = ranges[len(below):len(ranges) - len(above)]
    if touched:
        start = min(start, touched[0][0])
        behind = max(behind, touched[-1][1])
    return below + [(start, behind)] + above


def behind_ranges(ranges, place):
    """The place itself, or the end of the range that has it."""
    for one in ranges:
        if one[0] <= place < one[1]:
            return one[1]
    return place


def up_to_range(ranges, place, most):
    """How much lies from a place to the next range, and no more than most."""
    for one in ranges:
        if one[0] >= place:
            return min(most, one[0] - place)
    return most


def with_piece(pieces, place, data):
    """The pieces in order with one more; those that touch are one, and what was there stays."""
    below = []
    above = []
    for piece in pieces:
        behind = piece[0] + len(piece[1])
        if behind < place:
            below.append(piece)
        elif piece[0] > place + len(data):
            above.append(piece)
        else:
            data = data[:max(0, piece[0] - place)] + piece[1] + data[behind - place:]
            place = min(place, piece[0])
    return below + [(place, data)] + above

"""Sets of squares as numbers and as lists of (x, y); pieces, and the ways in which they lie."""

SIDE = 8
MOST_SQUARES = 8
QUARTERS = 4
NOT_IN_FIRST_COLUMN = 18374403900871474942
NOT_IN_LAST_COLUMN = 9187201950435737471


def squares_of(number):
    """The squares of a set that is told as a number, in their order."""
    return [(bit % SIDE, bit // SIDE) for bit in range(SIDE * SIDE) if (number >> bit) & 1 == 1]


def number_of(squares):
    """The number that tells a set of squares."""
    number = 0
    for x, y in squares:
        number = number | (1 << (x + SIDE * y))
    return number


def size_of(number):
    """How many squares the set has."""
    size = 0
    while number != 0:
        # Taking off the lowest bit that is set makes it a round for each square, not for each bit.
        number = number & (number - 1)
        size = size + 1
    return size


def with_neighbours(number):
    """The set of the squares and of all that share a side with one of them; bits above the squares may be set too."""
    right = (number & NOT_IN_LAST_COLUMN) << 1
    left = (number & NOT_IN_FIRST_COLUMN) >> 1
    return number | right | left | (number << SIDE) | (number >> SIDE)


def first_part(number):
    """The set of those squares that hang together, by their sides, with the first one (there is at least one)."""
    part = 0
    grown = number & -number
    while grown != part:
        part = grown
        grown = with_neighbours(part) & number
    return part


def is_piece(number):
    """Whether the set is a piece."""
    return 1 <= size_of(number) <= MOST_SQUARES and first_part(number) == number


def turned(squares):
    """The squares turned by a quarter; they may come to lie below 0."""
    return [(-y, x) for x, y in squares]


def mirrored(squares):
    """The squares mirrored; they may come to lie below 0."""
    return [(-x, y) for x, y in squares]


def corner_of(squares):
    """The least x and the least y of the squares (there is at least one)."""
    return (min([x for x, y in squares]), min([y for x, y in squares]))


def moved_to(squares, corner):
    """The squares, moved so that their least x and y are those of the corner."""
    least = corner_of(squares)
    return [(x - least[0] + corner[0], y - least[1] + corner[1]) for x, y in squares]


def turns_of(squares):
    """The squares as they are, turned by one, two, three quarters, and their mirror, turned so; none is moved back."""
    found = []
    for side_up in [squares, mirrored(squares)]:
        lying = side_up
        for quarter in range(QUARTERS):
            found.append(lying)
            lying = turned(lying)
    return found


def ways_to_lie(squares):
    """The numbers of the sets that a piece covers in each of its ways, in their order."""
    found = []
    for lying in turns_of(squares):
        number = number_of(moved_to(lying, (0, 0)))
        if number not in found:
            found.append(number)
    return found

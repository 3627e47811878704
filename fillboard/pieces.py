"""Pieces as lists of squares (x, y), and the ways in which they lie."""

SIDE = 8
MOST_SQUARES = 8
QUARTERS = 4


def squares_of(number):
    """The squares of a set that is told as a number, in their order."""
    return [(bit % SIDE, bit // SIDE) for bit in range(SIDE * SIDE) if (number >> bit) & 1 == 1]


def number_of(squares):
    """The number that tells a set of squares."""
    number = 0
    for x, y in squares:
        number = number | (1 << (x + SIDE * y))
    return number


def neighbours(square):
    """The places that share a side with the square; some may lie outside of all squares."""
    x = square[0]
    y = square[1]
    return [(x + 1, y), (x - 1, y), (x, y + 1), (x, y - 1)]


def is_joined(squares):
    """Whether all the squares (at least one) hang together by their sides."""
    reached = [squares[0]]
    walked = 0
    while walked < len(reached):
        for place in neighbours(reached[walked]):
            if place in squares and place not in reached:
                reached.append(place)
        walked = walked + 1
    return len(reached) == len(squares)


def is_piece(squares):
    """Whether the squares make up a piece."""
    return 1 <= len(squares) <= MOST_SQUARES and is_joined(squares)


def turned(squares):
    """The squares turned by a quarter; they may come to lie below 0."""
    return [(-y, x) for x, y in squares]


def mirrored(squares):
    """The squares mirrored; they may come to lie below 0."""
    return [(-x, y) for x, y in squares]


def moved_to_corner(squares):
    """The squares, as far to x 0 and y 0 as they go."""
    least_x = min([x for x, y in squares])
    least_y = min([y for x, y in squares])
    return [(x - least_x, y - least_y) for x, y in squares]


def ways_to_lie(squares):
    """The numbers of the sets that a piece covers in each of its ways, in their order."""
    found = []
    for side_up in [squares, mirrored(squares)]:
        lying = side_up
        for quarter in range(QUARTERS):
            number = number_of(moved_to_corner(lying))
            if number not in found:
                found.append(number)
            lying = turned(lying)
    return found

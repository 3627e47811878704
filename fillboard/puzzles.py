"""The calls: each answers a list of whole numbers, a refusal being its number alone."""

from fillboard.pieces import is_piece, squares_of, ways_to_lie

NO_PIECE = -2


def ways(piece):
    """How many ways the piece has to lie, then these, as sets of squares."""
    squares = squares_of(piece)
    if not is_piece(squares):
        return [NO_PIECE]
    found = ways_to_lie(squares)
    return [len(found)] + found

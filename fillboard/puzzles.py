"""The calls: each answers a list of whole numbers, a refusal being its number alone."""

from fillboard.lays import Puzzle
from fillboard.pieces import is_piece, squares_of, ways_to_lie
from fillboard.turns import number_different
from fillboard.walk import Walk, lays_without_rivals

NO_PIECE = -2
NOT_SO_MANY = -3
TOO_MANY_FILLINGS = -6
MORE_THAN_MOST = -7
OUT_OF_RANGE = -8

MOST_PIECES = 32
MOST_COUNTED = 1000000
MOST_COMPARED = 10000


def refusal(m, k, most, pieces):
    """The number of the refusal that comes ahead of the search, or 0 if there is none."""
    if m < 0 or m > MOST_PIECES or most < 0 or k < 0 or k >= MOST_COUNTED:
        return OUT_OF_RANGE
    for piece in pieces:
        if not is_piece(piece):
            return NO_PIECE
    return 0


def told(lays, most):
    """How many lays there are, then each one's piece and squares."""
    if len(lays) > most:
        return [MORE_THAN_MOST]
    answer = [len(lays)]
    for lay in lays:
        answer.extend([lay.piece, lay.squares])
    return answer


def ways(piece):
    """How many ways the piece has to lie, then these, as sets of squares."""
    if not is_piece(piece):
        return [NO_PIECE]
    found = ways_to_lie(squares_of(piece))
    return [len(found)] + found


def count(board, m, the_all, pieces, counts):
    """How many fillings there are, 1000000 standing for as many or more."""
    refused = refusal(m, 0, 0, pieces)
    if refused != 0:
        return [refused]
    walk = Walk(Puzzle(board, the_all, pieces, counts))
    # The walk ends behind the filling that makes them as many as are counted.
    walk.walk_through(MOST_COUNTED - 1, MOST_COUNTED - 1)
    return [walk.passed]


def nth(board, m, the_all, k, most, pieces, counts):
    """The k-th filling: how many pieces are laid, then each one's number and squares."""
    refused = refusal(m, k, most, pieces)
    if refused != 0:
        return [refused]
    walk = Walk(Puzzle(board, the_all, pieces, counts))
    walk.walk_through(k, k)
    if len(walk.found) == 0:
        return [NOT_SO_MANY]
    return told(walk.found[0], most)


def different(board, m, the_all, pieces, counts):
    """How many fillings there are if those that a turn or mirror of the board brings to one another are one."""
    refused = refusal(m, 0, 0, pieces)
    if refused != 0:
        return [refused]
    walk = Walk(Puzzle(board, the_all, pieces, counts))
    walk.walk_through(0, MOST_COMPARED)
    if len(walk.found) > MOST_COMPARED:
        return [TOO_MANY_FILLINGS]
    return [number_different(board, walk.found)]


def forced(board, m, the_all, most, pieces, counts):
    """The pieces that lie in every filling on the same squares: how many, then each one's number and squares."""
    refused = refusal(m, 0, most, pieces)
    if refused != 0:
        return [refused]
    walk = Walk(Puzzle(board, the_all, pieces, counts))
    walk.walk_through(MOST_COUNTED - 1, MOST_COUNTED - 1)
    if walk.passed == MOST_COUNTED:
        return [TOO_MANY_FILLINGS]
    if walk.passed == 0:
        return [NOT_SO_MANY]
    used = list(walk.used.values())
    walk.walk_through(0, 0)
    return told(lays_without_rivals(walk.found[0], used), most)

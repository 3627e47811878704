"""What may be laid on a board.

A state is a number that tells what is left of a puzzle: its lowest 64 bits are the squares that are not covered yet;
above them, eight bits for each piece tell how many there are of it. So a lay is taken off a state by one subtraction.
"""

from fillboard.pieces import SIDE, first_part, number_of, size_of, squares_of, ways_to_lie

ALL_SQUARES = 18446744073709551615
SQUARE_BITS = 64
COUNT_BITS = 8
GREATEST_COUNT = 255
MOST_KEPT = 4000000


def keep(kept, key, value):
    """Keeps a value, as long as there's not too much kept already."""
    if len(kept) < MOST_KEPT:
        kept[key] = value


class Lay:
    """A piece that lies on certain squares."""

    def __init__(self, piece, squares, stock, cost):
        """The stock: the bits of a state that tell of the piece. The cost: what the lay takes off a state."""
        self.piece = piece
        self.squares = squares
        self.stock = stock
        self.cost = cost


def first_bit(piece):
    """The lowest of the bits that tell of the piece in a state."""
    return 1 << (SQUARE_BITS + COUNT_BITS * piece)


def state_of(board, counts):
    """The state before anything is laid."""
    state = board
    for piece, number in enumerate(counts):
        state = state + number * first_bit(piece)
    return state


def moved_onto(way, square):
    """The set that the way covers if the first of its squares comes to lie on this one; 0 if it leaves the squares."""
    right = square[0] - way[0][0]
    down = square[1] - way[0][1]
    moved = [(x + right, y + down) for x, y in way]
    for x, y in moved:
        if x < 0 or x >= SIDE or y >= SIDE:
            return 0
    return number_of(moved)


def lays_of_piece(board, piece, number, ways):
    """For each square of the board, the lays of a piece of which it is the first square, in the order of the ways."""
    stock = GREATEST_COUNT * first_bit(piece)
    taken = first_bit(piece)
    squares = squares_of(board)
    if number * len(ways[0]) >= len(squares):
        # Such a piece can't run out; with its number left alone, more states are the same one.
        taken = 0
    found = []
    for square in squares:
        covered = [moved_onto(way, square) for way in ways]
        found.append([Lay(piece, one, stock, one + taken) for one in covered if one != 0 and one & board == one])
    return found


def lays_by_first_square(board, pieces, counts):
    """For each square of the board, as a set of one, the lays of which it is the first square, in their order."""
    found = {}
    squares = squares_of(board)
    for square in squares:
        found[number_of([square])] = []
    for piece, number in enumerate(counts):
        if number > 0:
            ways = [squares_of(way) for way in ways_to_lie(squares_of(pieces[piece]))]
            lays = lays_of_piece(board, piece, number, ways)
            for square, here in zip(squares, lays):
                found[number_of([square])].extend(here)
    return found


def sums_not_met(sizes, counts, most):
    """A number whose bit n tells whether no pieces have n squares together, for n from 0 to most."""
    met = 1
    for size, number in zip(sizes, counts):
        for one in range(min(number, most // size)):
            met = met | (met << size)
    return ((1 << (most + 1)) - 1) & ~met


def sizes_of_parts(number):
    """A number whose bit n tells whether a part of the set, joined by its sides, has n squares."""
    sizes = 0
    while number != 0:
        part = first_part(number)
        sizes = sizes | (1 << size_of(part))
        number = number - part
    return sizes


class Puzzle:
    """A board, the pieces to fill it with, and what may be laid in each state; what was worked out is kept."""

    def __init__(self, board, the_all, pieces, counts):
        self.size = size_of(board)
        self.piece_sizes = [size_of(piece) for piece in pieces]
        self.start = state_of(board, counts)
        self.by_first_square = lays_by_first_square(board, pieces, counts)
        self.parts_kept = {}
        self.sums_kept = {}
        self.lays_kept = {}
        # Pieces that cover the board are all used just if they have as many squares as it.
        whole = sum([size * number for size, number in zip(self.piece_sizes, counts)])
        self.hopeless = the_all != 0 and whole != self.size

    def parts(self, left):
        """The sizes of the parts of the squares left, as bits."""
        sizes = self.parts_kept.get(left)
        if sizes is None:
            sizes = sizes_of_parts(left)
            keep(self.parts_kept, left, sizes)
        return sizes

    def impossible_sizes(self, state):
        """The sizes that the pieces left don't add up to, as bits."""
        stock = state >> SQUARE_BITS
        sizes = self.sums_kept.get(stock)
        if sizes is None:
            counts = [(stock >> (COUNT_BITS * k)) & GREATEST_COUNT for k in range(len(self.piece_sizes))]
            sizes = sums_not_met(self.piece_sizes, counts, self.size)
            keep(self.sums_kept, stock, sizes)
        return sizes

    def lays_fitting(self, left):
        """The lays on the first square left, in their order, less those that part off what can't be filled."""
        lays = self.lays_kept.get(left)
        if lays is None:
            impossible = self.impossible_sizes(self.start)
            lays = [lay for lay in self.by_first_square[left & -left] if lay.squares & left == lay.squares]
            lays = [lay for lay in lays if self.parts(left - lay.squares) & impossible == 0]
            keep(self.lays_kept, left, lays)
        return lays

    def lays_next(self, state):
        """The lays that may come next, in their order; none if the pieces left can't fill what is left."""
        left = state & ALL_SQUARES
        if self.parts(left) & self.impossible_sizes(state) != 0:
            return []
        return [lay for lay in self.lays_fitting(left) if state & lay.stock != 0]

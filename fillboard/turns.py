"""Fillings that come of one another by a turn or mirror of the board."""

from fillboard.pieces import corner_of, moved_to, number_of, squares_of, turns_of


class Turn:
    """A turn or mirror under which a board stays."""

    def __init__(self, squares, brought):
        """The board's squares, and to where each of them is brought."""
        self.places = dict(zip(squares, brought))
        self.images = {}

    def image(self, number):
        """To where a set of the board's squares is brought."""
        if number not in self.images:
            self.images[number] = number_of([self.places[square] for square in squares_of(number)])
        return self.images[number]


def turns_of_board(board):
    """The turns and mirrors under which a board that isn't empty stays; the one that moves nothing is the first."""
    squares = squares_of(board)
    corner = corner_of(squares)
    found = []
    for lying in turns_of(squares):
        brought = moved_to(lying, corner)
        if sorted(brought) == sorted(squares):
            found.append(Turn(squares, brought))
    return found


def brought_by(turn, filling):
    """To where a turn brings a filling: its pieces and their squares, in an order of their own."""
    return tuple(sorted([(lay.piece, turn.image(lay.squares)) for lay in filling]))


def number_different(board, fillings):
    """How many of all a board's fillings are different, if those that turns bring to one another are one."""
    if board == 0:
        return len(fillings)
    turns = turns_of_board(board)
    seen = {}
    number = 0
    for filling in fillings:
        if brought_by(turns[0], filling) not in seen:
            number = number + 1
            for turn in turns:
                seen[brought_by(turn, filling)] = True
    return number

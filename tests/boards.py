"""What the tests share: boards as drawings, and a plain search that shares no code with the program."""

import random

ALL_SQUARES = 2**64 - 1
GREATEST = 2147483647
LEAST = -2147483648

DOMINO = 3

MOST_TRIED = 600

# How a square is brought elsewhere: as it is, turned by one, two, three quarters; the mirror, turned so.
TURNS = (
    lambda x, y: (x, y),
    lambda x, y: (-y, x),
    lambda x, y: (-x, -y),
    lambda x, y: (y, -x),
    lambda x, y: (-x, y),
    lambda x, y: (-y, -x),
    lambda x, y: (x, -y),
    lambda x, y: (y, x),
)


class Unchanging(list):
    """A list that fails when it is changed, be it for a while only."""

    def fail(self, *what):
        raise AssertionError("a list that was handed in is changed")

    __setitem__ = __delitem__ = __iadd__ = __imul__ = fail
    append = extend = insert = pop = remove = clear = sort = reverse = fail


def square(x, y):
    return 1 << (x + 8 * y)


def drawn(text, x=0, y=0):
    """The set that a drawing shows: rows of y, parted by blanks, '#' for a square."""
    return drawn_as(text, "#", x, y)


def drawn_as(text, sign, x=0, y=0):
    """The set of the squares that bear the sign in a drawing."""
    number = 0
    for down, row in enumerate(text.split()):
        for right, one in enumerate(row):
            if one == sign:
                number |= square(x + right, y + down)
    return number


def shown(text, pieces, x=0, y=0):
    """The answer that a drawing shows: letters in their order for the pieces told; their numbers beside it."""
    return as_answer([(number, drawn_as(text, sign, x, y)) for sign, number in zip("abcdefgh", pieces)])


def as_answer(lays):
    """How many lays there are, then each one's number and set."""
    answer = [len(lays)]
    for number, squares in lays:
        answer += [number, squares]
    return answer


def block(wide, high, x=0, y=0):
    """The set of the squares of a rectangle."""
    return drawn(" ".join(["#" * wide] * high), x, y)


# Sets that are no piece: empty, in parts, too large, joined by corners or by the numbers of their bits alone.
NO_PIECES = (
    0, 5, block(3, 3), ALL_SQUARES, square(7, 0) | square(0, 1), drawn("#. .#"), square(0, 0) | square(7, 7),
    drawn("##.. ##.. ..## ..##"),
)


def places(number):
    """The squares of a set, as (x, y)."""
    return frozenset((bit % 8, bit // 8) for bit in range(64) if number >> bit & 1)


def as_number(squares):
    return sum(square(x, y) for x, y in squares)


def in_corner(squares):
    left = min(x for x, y in squares)
    top = min(y for x, y in squares)
    return frozenset((x - left, y - top) for x, y in squares)


def plain_ways(piece):
    found = []
    for turn in TURNS:
        way = in_corner([turn(x, y) for x, y in places(piece)])
        if way not in found:
            found.append(way)
    return found


def by_rows(place):
    return place[1], place[0]


def plain_lays(board, pieces):
    """Every lay on the board, by its last square: the piece's number, its way's number, its squares."""
    lays = {}
    whole = places(board)
    for number, piece in enumerate(pieces):
        for kind, way in enumerate(plain_ways(piece)):
            for right in range(8):
                for down in range(8):
                    moved = frozenset((x + right, y + down) for x, y in way)
                    if moved <= whole:
                        lays.setdefault(max(moved, key=by_rows), []).append((number, kind, moved))
    return lays


def first_bit(lay):
    return min(x + 8 * y for x, y in lay[2])


def plain_fillings(board, the_all, pieces, counts):
    """All the fillings in their order, each a list of (number, set), found from the last square on and then sorted.

    There may be one more than MOST_TRIED, and then they are not all.
    """
    lays = plain_lays(board, pieces)
    found = []

    def cover(left, stock, laid):
        if len(found) > MOST_TRIED:
            return
        if not left:
            if not the_all or not any(stock):
                found.append(sorted(laid, key=first_bit))
            return
        for lay in lays.get(max(left, key=by_rows), []):
            if stock[lay[0]] and lay[2] <= left:
                rest = list(stock)
                rest[lay[0]] -= 1
                cover(left - lay[2], rest, laid + [lay])

    cover(places(board), list(counts), [])
    found.sort(key=lambda filling: [(number, kind) for number, kind, squares in filling])
    return [[(number, as_number(squares)) for number, kind, squares in filling] for filling in found]


def plain_different(board, fillings):
    """How many fillings are different, by pairs: each is held against every turn of those before."""
    whole = places(board)
    turns = []
    for turn in TURNS:
        brought = {(x, y): turn(x, y) for x, y in whole}
        across = min(x for x, y in whole) - min(x for x, y in brought.values())
        down = min(y for x, y in whole) - min(y for x, y in brought.values())
        brought = {place: (x + across, y + down) for place, (x, y) in brought.items()}
        if whole == set(brought.values()):
            turns.append(brought)
    kept = set()
    for filling in fillings:
        images = []
        for brought in turns:
            images.append(frozenset((one, frozenset(brought[place] for place in places(lay))) for one, lay in filling))
        if not kept.intersection(images):
            kept.add(images[0])
    return len(kept)


def random_piece(chance, most):
    """A piece of up to so many squares, at any place."""
    piece = {(chance.randrange(8), chance.randrange(8))}
    for grown in range(most - 1):
        x, y = chance.choice(sorted(piece))
        across, down = chance.choice([(1, 0), (-1, 0), (0, 1), (0, -1)])
        if 0 <= x + across < 8 and 0 <= y + down < 8:
            piece.add((x + across, y + down))
    return as_number(piece)


def random_puzzle(chance):
    """A small puzzle: board, all, pieces, counts."""
    wide, high = chance.randint(1, 4), chance.randint(1, 4)
    board = block(wide, high, chance.randint(0, 8 - wide), chance.randint(0, 8 - high))
    for left_out in range(chance.randrange(4)):
        board &= ~(1 << chance.randrange(64))
    pieces = [random_piece(chance, chance.randint(1, 5)) for one in range(chance.randint(1, 5))]
    counts = [chance.choice([0, 1, 1, 2, 2, 3, 4, 12, 255]) for piece in pieces]
    return board, chance.choice([0, 0, 0, 1, -1]), pieces, counts


def all_used(chance, puzzle, filling):
    """The puzzle with just those pieces that are in a filling, which all have to be used."""
    board, the_all, pieces, counts = puzzle
    used = [number for number, squares in filling]
    return board, chance.choice([1, -1, 2, LEAST, GREATEST]), pieces, [used.count(one) for one in range(len(pieces))]


def random_puzzles(number):
    """So many small puzzles, always the same, each with its fillings; with few fillings, but seldom with none."""
    chance = random.Random(number)
    while number > 0:
        puzzle = random_puzzle(chance)
        fillings = plain_fillings(*puzzle)
        if fillings and chance.randrange(3) == 0:
            puzzle = all_used(chance, puzzle, chance.choice(fillings))
            fillings = plain_fillings(*puzzle)
        if len(fillings) <= MOST_TRIED and (fillings or chance.randrange(20) == 0):
            number -= 1
            yield puzzle + (fillings,)

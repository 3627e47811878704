"""Promise 5: how many fillings are different."""

import inspect
import random
import unittest

from boards import (
    ALL_SQUARES, DOMINO, GREATEST, LEAST, MOST_TRIED, NO_PIECES, Unchanging, block, drawn, plain_different,
    plain_fillings, random_piece, random_puzzles,
)
from fillboard import puzzles
from fillboard.puzzles import count, different

MOST = 10000
CORNER = drawn("## #.")
J_PIECE = drawn("#. #. ##")
TOO_MANY = [-6]

# How many ways there are to lay two pieces of one square on all squares of a board, told apart by its turns.
# They were counted by hand: for each turn, twice as many for each round in which it brings squares to one another.
BOARDS = [
    # All eight turns and mirrors.
    ("#", 2),
    ("## ##", 6),
    ("### ### ###", 102),
    ("### #.# ###", 51),
    (".#. ### .#.", 12),
    ("#.# ... #.#", 6),
    # Four: the quarters' turns without a mirror; two mirrors along the sides; two along the slants.
    (".#.. .### ###. ..#.", 70),
    ("### ###", 24),
    ("## ## ##", 24),
    ("####", 10),
    ("# # # #", 10),
    ("##. ### .##", 48),
    (".## ### ##.", 48),
    ("#. .#", 3),
    # Two: half a turn alone; one mirror along a side; one along a slant.
    ("##. .##", 10),
    (".## ##.", 10),
    (".# ## #.", 10),
    ("### .#.", 12),
    (".#. ###", 12),
    (".# ## .#", 12),
    ("#. ## #.", 12),
    ("## #.", 6),
    ("## .#", 6),
    (".# ##", 6),
    ("#. ##", 6),
    # None but the one that moves nothing.
    ("#. #. ##", 16),
    ("### #..", 16),
    (".## ##. .#.", 32),
    ("##.#", 8),
    ("##. ... #.. ..#", 16),
]


def apart(board, pieces, counts, the_all=0):
    """What is answered; the lists that are handed in are watched."""
    answer = different(board, len(pieces), the_all, Unchanging(pieces), Unchanging(counts))
    assert type(answer) is list and [type(number) for number in answer] == [int], answer
    return answer


def size(text):
    rows = text.split()
    return len(rows[0]), len(rows)


class TheCall(unittest.TestCase):
    def test_names(self):
        names = ["board", "m", "the_all", "pieces", "counts"]
        self.assertEqual(list(inspect.signature(puzzles.different).parameters), names)
        self.assertEqual(different(board=block(2, 2), m=1, the_all=0, pieces=[3], counts=[2]), [1])

    def test_what_is_handed_in_stays(self):
        pieces = [DOMINO, CORNER, 1]
        counts = [4, 2, 1]
        for the_all in (0, 1):
            different(block(3, 3), 3, the_all, pieces, counts)
            self.assertEqual((pieces, counts), ([DOMINO, CORNER, 1], [4, 2, 1]))

    def test_called_again(self):
        calls = [
            (block(4, 4), 1, 0, [DOMINO], [8]),
            (block(2, 3), 1, 0, [DOMINO], [8]),
            (block(2, 3, 5, 5), 1, 1, [DOMINO], [4]),
            (ALL_SQUARES, 1, 0, [DOMINO], [32]),
            (block(2, 3), 1, 0, [5], [8]),
            (block(2, 3), -1, 0, [], []),
        ]
        answers = [[9], [2], [0], [-6], [-2], [-8]]
        for call, expected in zip(calls + calls[::-1], answers + answers[::-1]):
            answer = different(*call)
            self.assertEqual(answer, expected)
            answer[0] = 5
            answer.append(7)
            self.assertEqual(different(*call), expected)


class TurnsOfTheBoard(unittest.TestCase):
    def test_each_kind_of_board(self):
        for text, number in BOARDS:
            with self.subTest(text):
                self.assertEqual(apart(drawn(text), [1, 1], [64, 64]), [number])

    def test_each_kind_of_board_at_every_place(self):
        for text, number in BOARDS:
            if number <= 24:
                wide, high = size(text)
                for x in range(9 - wide):
                    for y in range(9 - high):
                        with self.subTest(text, x=x, y=y):
                            self.assertEqual(apart(drawn(text, x, y), [1, 1], [9, 8]), [number])

    def test_boards_at_the_last_row_and_column(self):
        for text, number in BOARDS:
            wide, high = size(text)
            with self.subTest(text):
                self.assertEqual(apart(drawn(text, 8 - wide, 8 - high), [1, 1], [64, 64]), [number])

    def test_against_pairs(self):
        chance = random.Random(5)
        for text, number in BOARDS:
            for one in range(8):
                board = drawn(text, chance.randint(0, 4), chance.randint(0, 4))
                pieces = [1] + [random_piece(chance, 3) for piece in range(3)]
                counts = [chance.randint(0, 9) for piece in pieces]
                fillings = plain_fillings(board, 0, pieces, counts)
                if len(fillings) <= MOST_TRIED:
                    with self.subTest(text, pieces=pieces, counts=counts):
                        self.assertEqual(apart(board, pieces, counts), [plain_different(board, fillings)])

    def test_small_puzzles_against_pairs(self):
        fewer = 0
        for board, the_all, pieces, counts, fillings in random_puzzles(260):
            number = plain_different(board, fillings) if board else len(fillings)
            fewer += number < len(fillings)
            with self.subTest(board=board, the_all=the_all, pieces=pieces, counts=counts):
                self.assertEqual(apart(board, pieces, counts, the_all), [number])
        self.assertGreater(fewer, 100)


class Fillings(unittest.TestCase):
    def test_dominoes(self):
        # Some of them stay themselves under a turn, others don't.
        for wide, high, number in ((2, 2, 1), (2, 3, 2), (3, 2, 2), (4, 4, 9), (6, 6, 930), (8, 1, 1), (3, 3, 0)):
            self.assertEqual(apart(block(wide, high), [DOMINO], [255]), [number])
            self.assertEqual(apart(block(wide, high, 8 - wide, 8 - high), [DOMINO], [32]), [number])

    def test_fillings_that_stay(self):
        self.assertEqual(apart(drawn("### #.# ###"), [DOMINO], [4]), [1])
        self.assertEqual(apart(block(3, 3), [drawn("### #.# ###"), 1], [1, 9]), [2])
        self.assertEqual(apart(block(4, 4), [block(2, 2)], [4]), [1])
        self.assertEqual(apart(block(4, 4), [block(4, 1)], [4]), [1])
        self.assertEqual(apart(block(4, 4), [block(4, 1), block(2, 2)], [4, 4]), [4])
        self.assertEqual(count(block(4, 4), 2, 0, [block(4, 1), block(2, 2)], [4, 4]), [9])

    def test_one_shape_told_as_two(self):
        # On a board that stays under nothing else, they can change places.
        self.assertEqual(apart(J_PIECE, [DOMINO], [2]), [1])
        self.assertEqual(apart(J_PIECE, [DOMINO, DOMINO], [1, 1]), [2])
        self.assertEqual(apart(J_PIECE, [DOMINO, DOMINO], [2, 2]), [4])
        # A turn brings these places to one another.
        self.assertEqual(apart(block(2, 1), [1, 1], [1, 1]), [1])
        self.assertEqual(apart(block(2, 2), [DOMINO, DOMINO], [1, 1]), [1])
        # On this board the place in the middle is brought to no other.
        self.assertEqual(apart(block(3, 1), [1, 1, 1], [1, 1, 1]), [3])
        self.assertEqual(apart(block(3, 1), [1, 1], [1, 2]), [2])
        self.assertEqual(apart(block(3, 2), [DOMINO, DOMINO], [1, 2]), [4])

    def test_one_shape_told_as_two_where_every_place_is_brought_to_every_other(self):
        self.assertEqual(apart(block(2, 2), [1, 1, 1, 1], [1, 1, 1, 1]), [3])
        self.assertEqual(apart(block(2, 2), [1, 1, 1], [2, 1, 1]), [2])
        self.assertEqual(apart(drawn(".#.. .### ###. ..#."), [DOMINO, DOMINO], [2, 2], 1), [2])

    def test_that_other_squares_are_not_the_same_filling(self):
        self.assertEqual(apart(block(4, 1), [DOMINO, 1], [1, 2]), [2])
        self.assertEqual(apart(block(5, 1, 3, 3), [1, drawn("####")], [1, 1]), [1])
        self.assertEqual(apart(block(3, 3), [1, 1], [1, 8]), [3])
        self.assertEqual(apart(ALL_SQUARES, [1, 1], [1, 63]), [10])
        self.assertEqual(apart(ALL_SQUARES, [1, 1], [2, 62], 1), [278])

    def test_all(self):
        self.assertEqual(apart(block(2, 2), [DOMINO, 1], [2, 4]), [3])
        for the_all in (1, -1, GREATEST, LEAST):
            self.assertEqual(apart(block(2, 2), [DOMINO, 1], [2, 4], the_all), [0])
            self.assertEqual(apart(block(2, 2), [DOMINO, 1], [1, 2], the_all), [1])
            self.assertEqual(apart(block(2, 2), [DOMINO, 1], [2, 0], the_all), [1])

    def test_none(self):
        for board in (1, block(3, 3), ALL_SQUARES):
            self.assertEqual(apart(board, [], []), [0])
            self.assertEqual(apart(board, [DOMINO], [0]), [0])
        self.assertEqual(apart(block(3, 3), [DOMINO], [255]), [0])
        self.assertEqual(apart(block(2, 2), [DOMINO], [1]), [0])

    def test_the_empty_board(self):
        for the_all in (0, 1, -1, GREATEST, LEAST):
            self.assertEqual(apart(0, [], [], the_all), [1])
            self.assertEqual(apart(0, [1, DOMINO], [0, 0], the_all), [1])
            self.assertEqual(apart(0, [1, DOMINO], [0, 1], the_all), [1 if the_all == 0 else 0])


class TenThousand(unittest.TestCase):
    # Each of four squares has ten pieces to choose from.
    ONES = [1] * 10

    def test_just_below(self):
        self.assertEqual(apart(J_PIECE, self.ONES, [4] * 9 + [3]), [MOST - 1])
        self.assertEqual(apart(block(2, 2), self.ONES, [4] * 9 + [3]), [1539])

    def test_just_as_many(self):
        self.assertEqual(apart(J_PIECE, self.ONES, [4] * 10), [MOST])
        self.assertEqual(apart(J_PIECE, self.ONES + [J_PIECE], [4] * 9 + [3, 1]), [MOST])
        self.assertEqual(apart(block(2, 2), self.ONES, [4] * 10), [1540])
        self.assertEqual(apart(block(2, 2), self.ONES, [255] * 10), [1540])

    def test_more(self):
        self.assertEqual(apart(J_PIECE, self.ONES + [J_PIECE], [4] * 10 + [1]), TOO_MANY)
        self.assertEqual(apart(J_PIECE, [J_PIECE] + self.ONES, [1] + [4] * 10), TOO_MANY)
        self.assertEqual(apart(block(2, 2), self.ONES + [block(2, 2)], [4] * 10 + [1]), TOO_MANY)
        self.assertEqual(apart(block(2, 2), self.ONES + [1], [4] * 10 + [1]), TOO_MANY)
        self.assertEqual(apart(block(5, 1), self.ONES, [5] * 10), TOO_MANY)

    def test_many_more(self):
        self.assertEqual(apart(block(8, 5), [DOMINO], [20]), TOO_MANY)
        self.assertEqual(apart(ALL_SQUARES, [DOMINO], [32]), TOO_MANY)
        self.assertEqual(apart(ALL_SQUARES, [1] * 32, [2] * 32, 1), TOO_MANY)


class Refusals(unittest.TestCase):
    def test_m_out_of_its_range(self):
        for m in (-1, 33, LEAST, GREATEST):
            for board in (0, 1, ALL_SQUARES):
                for the_all in (0, 1):
                    self.assertEqual(different(board, m, the_all, [], []), [-8])

    def test_m_at_the_edges_of_its_range(self):
        self.assertEqual(different(1, 0, 0, [], []), [0])
        self.assertEqual(different(0, 0, 0, [], []), [1])
        self.assertEqual(different(1, 32, 0, [1] * 32, [1] * 32), [32])

    def test_no_piece(self):
        for piece in NO_PIECES:
            for number in (0, 1, 255):
                for board in (0, 1, block(2, 2)):
                    self.assertEqual(apart(board, [piece], [number]), [-2])
                    self.assertEqual(apart(board, [1, piece], [number] * 2, 1), [-2])

    def test_no_piece_before_too_many(self):
        for piece in NO_PIECES:
            for number in (0, 1):
                self.assertEqual(apart(ALL_SQUARES, [DOMINO, piece], [32, number]), [-2])
                self.assertEqual(apart(ALL_SQUARES, [piece, DOMINO], [number, 32]), [-2])


if __name__ == "__main__":
    unittest.main()

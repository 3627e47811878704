"""Promise 3: how many fillings there are."""

import inspect
import unittest

from boards import ALL_SQUARES, DOMINO, GREATEST, LEAST, NO_PIECES, Unchanging, block, drawn, random_puzzles, square
from fillboard import puzzles
from fillboard.puzzles import count

MOST = 1000000
CORNER = drawn("## #.")
L_PIECE = drawn("#. #. ##")
T_PIECE = drawn("### .#.")
S_PIECE = drawn(".## ##.")
SQUARE = block(2, 2)
NOT_0 = (1, -1, 2, GREATEST, LEAST)


def counted(board, pieces, counts, the_all=0):
    """The number that is answered; the lists that are handed in are watched."""
    answer = count(board, len(pieces), the_all, Unchanging(pieces), Unchanging(counts))
    assert type(answer) is list and [type(number) for number in answer] == [int], answer
    return answer[0]


class TheCall(unittest.TestCase):
    def test_names(self):
        names = ["board", "m", "the_all", "pieces", "counts"]
        self.assertEqual(list(inspect.signature(puzzles.count).parameters), names)
        self.assertEqual(count(board=15, m=1, the_all=0, pieces=[3], counts=[2]), [1])

    def test_what_is_handed_in_stays(self):
        pieces = [DOMINO, CORNER, 1]
        counts = [4, 2, 1]
        for the_all in (0, 1):
            count(block(3, 3), 3, the_all, pieces, counts)
            self.assertEqual((pieces, counts), ([DOMINO, CORNER, 1], [4, 2, 1]))

    def test_called_again(self):
        calls = [
            (block(4, 4), 1, 0, [DOMINO], [8]),
            (block(4, 4), 1, 0, [DOMINO], [7]),
            (block(4, 4), 1, 1, [DOMINO], [9]),
            (block(4, 4), 2, 0, [DOMINO, DOMINO], [7, 1]),
            (block(4, 4), 2, 0, [DOMINO, 5], [7, 1]),
            (block(4, 4), 33, 0, [], []),
            (ALL_SQUARES, 1, 0, [DOMINO], [32]),
        ]
        answers = [[36], [0], [0], [36 * 8], [-2], [-8], [MOST]]
        for call, expected in zip(calls + calls[::-1], answers + answers[::-1]):
            answer = count(*call)
            self.assertEqual(answer, expected)
            answer[0] = 5
            answer.append(7)
            self.assertEqual(count(*call), expected)


class Ordinary(unittest.TestCase):
    def test_dominoes_on_two_rows(self):
        for wide, number in enumerate((1, 2, 3, 5, 8, 13, 21, 34), start=1):
            for x in range(9 - wide):
                self.assertEqual(counted(block(wide, 2, x, 6), [DOMINO], [32]), number)
                self.assertEqual(counted(block(2, wide, 3, x), [DOMINO], [32]), number)

    def test_dominoes_on_larger_boards(self):
        for wide, high, number in ((3, 3, 0), (4, 4, 36), (6, 6, 6728), (8, 3, 153), (8, 4, 2245), (8, 5, 14824)):
            self.assertEqual(counted(block(wide, high), [DOMINO], [255]), number)
            self.assertEqual(counted(block(high, wide, 8 - high, 8 - wide), [DOMINO], [255]), number)
        self.assertEqual(counted(block(8, 6, 0, 1), [DOMINO], [24]), 167089)

    def test_boards_that_are_no_rectangle(self):
        diamond_2 = ".##. #### #### .##."
        diamond_3 = "..##.. .####. ###### ###### .####. ..##.."
        diamond_4 = "...##... ..####.. .######. ######## ######## .######. ..####.. ...##..."
        for text, number in ((diamond_2, 8), (diamond_3, 64), (diamond_4, 1024)):
            self.assertEqual(counted(drawn(text), [DOMINO], [255]), number)
        self.assertEqual(counted(drawn(diamond_2, 4, 4), [DOMINO], [6]), 8)
        self.assertEqual(counted(ALL_SQUARES - square(0, 0) - square(7, 7), [DOMINO], [31]), 0)

    def test_boards_with_holes(self):
        self.assertEqual(counted(drawn("### #.# ###"), [DOMINO], [4]), 2)
        self.assertEqual(counted(drawn("### #.# ###", 5, 5), [DOMINO], [4]), 2)
        self.assertEqual(counted(drawn("### #.# ###"), [drawn("### #.# ###")], [1]), 1)
        self.assertEqual(counted(block(3, 3), [drawn("### #.# ###", 5, 5), 1], [1, 1], 1), 1)
        self.assertEqual(counted(drawn("###. #.## ###."), [T_PIECE, DOMINO, CORNER], [1, 1, 1], 1), 2)

    def test_boards_in_two_parts(self):
        self.assertEqual(counted(block(2, 2) | block(2, 3, 5, 5), [DOMINO], [5]), 6)
        self.assertEqual(counted(block(3, 1) | block(3, 1, 4), [DOMINO], [3]), 0)
        self.assertEqual(counted(square(0, 0) | square(7, 7), [1], [2]), 1)
        self.assertEqual(counted(square(0, 0) | square(7, 7), [1, 1], [1, 1]), 2)
        # The parts touch at corners, or only by the numbers of their bits.
        self.assertEqual(counted(drawn("##. ..#"), [CORNER], [1]), 0)
        self.assertEqual(counted(square(7, 0) | square(0, 1), [DOMINO], [1]), 0)
        self.assertEqual(counted(drawn("##", 6, 2) | drawn("##", 0, 3), [DOMINO, drawn("####")], [2, 1]), 1)

    def test_the_last_row_and_column(self):
        self.assertEqual(counted(block(2, 2, 6, 6), [DOMINO], [2]), 2)
        self.assertEqual(counted(block(8, 1, 0, 7), [DOMINO], [4]), 1)
        self.assertEqual(counted(block(1, 8, 7, 0), [DOMINO], [4]), 1)
        self.assertEqual(counted(square(7, 7), [1], [1]), 1)
        self.assertEqual(counted(block(1, 8, 7, 0) | block(8, 1, 0, 7), [1], [15]), 1)
        # Nothing goes on beyond the last column at the next row's first.
        self.assertEqual(counted(drawn("##", 6, 6) | drawn("##", 0, 7), [drawn("###"), 1], [1, 1]), 0)

    def test_pieces_at_other_places_or_turned(self):
        board = block(4, 3)
        turns = [CORNER, drawn("## .#"), drawn(".# ##"), drawn("#. ##")]
        for piece in turns:
            for x, y in ((0, 0), (3, 2), (6, 6)):
                self.assertEqual(counted(board, [piece << (x + 8 * y)], [4]), 4)
        mirrors = ["#. #. ##", ".# .# ##", "### ..#", "#.. ###"]
        for text in mirrors:
            self.assertEqual(counted(block(4, 2), [drawn(text, 3, 4)], [2]), 2)
        self.assertEqual(counted(ALL_SQUARES, [block(8, 1, 0, 7)], [8]), 2)
        self.assertEqual(counted(ALL_SQUARES, [block(1, 8, 7)], [8]), 2)

    def test_several_pieces(self):
        board = block(3, 3)
        self.assertEqual(counted(board, [drawn("###"), SQUARE, DOMINO], [1, 1, 1], 1), 8)
        self.assertEqual(counted(board, [CORNER, SQUARE, DOMINO], [1, 1, 1], 1), 0)
        self.assertEqual(counted(board, [drawn("#.. #.. ###"), SQUARE], [1, 1], 1), 4)
        self.assertEqual(counted(block(4, 5), [drawn("####"), SQUARE, T_PIECE, S_PIECE, L_PIECE], [1] * 5), 0)

    def test_a_piece_that_is_the_board(self):
        for text in ("#", "##", "########", "#. #. ##", "### #.# ###", ".#.. .### ###. ..#."):
            self.assertEqual(counted(drawn(text), [drawn(text)], [1]), 1)
            self.assertEqual(counted(drawn(text), [drawn(text), drawn(text)], [1, 1]), 2)

    def test_twelve_pieces_of_five(self):
        drawings = (
            "#####", ".## ##. .#.", "#### #...", "##.. .###", "## ## #.", "### .#. .#.",
            "#.# ###", "#.. #.. ###", "#.. ##. .##", ".#. ### .#.", "#### .#..", "##. .#. .##",
        )
        board = ALL_SQUARES - block(2, 2, 3, 3)
        self.assertEqual(counted(board, [drawn(text) for text in drawings], [1] * 12, 1), 520)

    def test_against_a_plain_search(self):
        seen = {}
        for board, the_all, pieces, counts, fillings in random_puzzles(400):
            seen[len(fillings)] = True
            with self.subTest(board=board, the_all=the_all, pieces=pieces, counts=counts):
                self.assertEqual(counted(board, pieces, counts, the_all), len(fillings))
        self.assertGreater(len(seen), 50)


class HowMany(unittest.TestCase):
    def test_of_one_piece(self):
        for number, fillings in ((0, 0), (1, 0), (2, 0), (3, 3), (4, 3), (254, 3), (255, 3)):
            self.assertEqual(counted(block(3, 2), [DOMINO], [number]), fillings)

    def test_of_one_piece_at_every_number(self):
        for number in range(256):
            self.assertEqual(counted(block(3, 2), [DOMINO], [number]), 3 if number > 2 else 0)
            # The other piece lies on one square of them all, or, if this one is enough, on none.
            fillings = (number >= 63) * 64 + (number >= 64)
            self.assertEqual(counted(ALL_SQUARES, [1, 1], [number, 1]), fillings)
            self.assertEqual(counted(ALL_SQUARES, [1, 1], [1, number]), fillings)

    def test_of_one_among_others(self):
        # One corner piece needs a square beside it; two need none.
        board = block(2, 3)
        for corners, ones, fillings in ((0, 6, 1), (1, 6, 9), (2, 6, 11), (2, 2, 2), (2, 3, 10), (1, 2, 0), (0, 5, 0)):
            self.assertEqual(counted(board, [CORNER, 1], [corners, ones]), fillings, (corners, ones))

    def test_of_one_shape_told_as_two(self):
        board = block(3, 2)
        numbers = ((1, 1, 0), (1, 2, 9), (2, 1, 9), (2, 2, 18), (3, 0, 3), (3, 3, 24), (255, 3, 24))
        for first, second, fillings in numbers:
            self.assertEqual(counted(board, [DOMINO, DOMINO], [first, second]), fillings)
            self.assertEqual(counted(board, [DOMINO, drawn("# #", 5, 5)], [first, second]), fillings)

    def test_of_thirty_two_pieces(self):
        self.assertEqual(counted(block(2, 1), [1] * 32, [1] * 32), 32 * 31)
        self.assertEqual(counted(block(2, 1), [1] * 32, [2] * 32), 32 * 32)
        self.assertEqual(counted(block(2, 1), [1] * 32, [0] * 31 + [2]), 1)
        self.assertEqual(counted(block(4, 1), [1] * 31 + [drawn("####")], [0] * 31 + [255]), 1)

    def test_that_all_can_run_out_anywhere(self):
        for board in (block(4, 4), block(4, 4, 4, 4)):
            for number in range(9):
                chosen = counted(board, [DOMINO, DOMINO], [number, 8 - number])
                self.assertEqual(chosen, 36 * (1, 8, 28, 56, 70, 56, 28, 8, 1)[number])


class AllOfThem(unittest.TestCase):
    def test_none_left_over(self):
        for the_all in NOT_0 + (0,):
            self.assertEqual(counted(block(2, 2), [DOMINO], [2], the_all), 2)
            self.assertEqual(counted(block(2, 2), [DOMINO, 1], [2, 0], the_all), 2)
            self.assertEqual(counted(block(2, 3), [CORNER, DOMINO], [2, 0], the_all), 2)

    def test_some_left_over(self):
        for the_all in NOT_0:
            self.assertEqual(counted(block(2, 2), [DOMINO], [3], the_all), 0)
            self.assertEqual(counted(block(2, 2), [DOMINO], [255], the_all), 0)
            self.assertEqual(counted(block(2, 2), [DOMINO, 1], [2, 1], the_all), 0)
            self.assertEqual(counted(block(2, 2), [DOMINO, block(8, 1)], [2, 1], the_all), 0)
        self.assertEqual(counted(block(2, 2), [DOMINO], [3]), 2)
        self.assertEqual(counted(block(2, 2), [DOMINO], [255]), 2)
        self.assertEqual(counted(block(2, 2), [DOMINO, 1], [2, 1]), 2)
        self.assertEqual(counted(block(2, 2), [DOMINO, block(8, 1)], [2, 1]), 2)

    def test_which_of_the_fillings(self):
        for the_all in NOT_0:
            self.assertEqual(counted(block(2, 2), [DOMINO, 1], [1, 2], the_all), 4)
            self.assertEqual(counted(block(2, 2), [DOMINO, 1], [0, 4], the_all), 1)
        self.assertEqual(counted(block(2, 2), [DOMINO, 1], [1, 2]), 4)
        self.assertEqual(counted(block(2, 2), [DOMINO, 1], [2, 4]), 7)

    def test_too_few(self):
        for the_all in NOT_0 + (0,):
            self.assertEqual(counted(block(2, 2), [DOMINO], [1], the_all), 0)
            self.assertEqual(counted(block(2, 2), [DOMINO], [0], the_all), 0)
            self.assertEqual(counted(block(2, 2), [], [], the_all), 0)


class TheEmptyBoard(unittest.TestCase):
    def test_without_pieces(self):
        for the_all in NOT_0 + (0,):
            self.assertEqual(counted(0, [], [], the_all), 1)

    def test_with_pieces(self):
        for pieces, counts in (([1], [1]), ([DOMINO, 1], [0, 255]), ([1] * 32, [0] * 31 + [1])):
            self.assertEqual(counted(0, pieces, counts), 1)
            for the_all in NOT_0:
                self.assertEqual(counted(0, pieces, counts, the_all), 0)

    def test_with_none_of_the_pieces(self):
        for pieces in ([1], [DOMINO, 1], [1] * 32):
            for the_all in NOT_0 + (0,):
                self.assertEqual(counted(0, pieces, [0] * len(pieces), the_all), 1)


class AMillion(unittest.TestCase):
    def test_just_below_at_and_above(self):
        # Each of six squares has ten pieces to choose from.
        ones = [1] * 10
        for board in (block(3, 2), block(6, 1, 2, 7), drawn("#.#.#.#. ........ #.#")):
            self.assertEqual(counted(board, ones, [6] * 9 + [5]), MOST - 1)
            self.assertEqual(counted(board, ones, [6] * 10), MOST)
            self.assertEqual(counted(board, ones, [255] * 10), MOST)
            self.assertEqual(counted(board, ones + [1], [6] * 10 + [1]), MOST)
        self.assertEqual(counted(block(3, 2), ones + [block(3, 2)], [6] * 10 + [1]), MOST)
        self.assertEqual(counted(block(3, 2), [block(3, 2)] + ones, [1] + [6] * 9 + [5]), MOST)
        self.assertEqual(counted(block(3, 2), [block(3, 2)] + ones, [1] + [6] * 8 + [5, 5]), MOST - 1)

    def test_far_above(self):
        for board in (ALL_SQUARES, block(8, 7), block(7, 8, 1, 0)):
            self.assertEqual(counted(board, [DOMINO], [255]), MOST)
            self.assertEqual(counted(board, [DOMINO, 1], [255, 255]), MOST)
        self.assertEqual(counted(ALL_SQUARES, [1] * 32, [2] * 32, 1), MOST)
        self.assertEqual(counted(ALL_SQUARES, [DOMINO] * 32, [1] * 32, 1), MOST)


class Refusals(unittest.TestCase):
    def test_m_out_of_its_range(self):
        for m in (-1, 33, 34, -32, LEAST, GREATEST):
            for board in (0, 1, ALL_SQUARES):
                for the_all in (0, 1):
                    self.assertEqual(count(board, m, the_all, [], []), [-8])

    def test_m_at_the_edges_of_its_range(self):
        self.assertEqual(count(1, 0, 0, [], []), [0])
        self.assertEqual(count(0, 0, 0, [], []), [1])
        self.assertEqual(count(1, 32, 0, [1] * 32, [1] * 32), [32])

    def test_no_piece(self):
        for piece in NO_PIECES:
            for board in (0, 1, block(2, 2), ALL_SQUARES):
                for number in (0, 1, 255):
                    for the_all in (0, 1):
                        self.assertEqual(counted(board, [piece], [number], the_all), -2)

    def test_no_piece_among_pieces(self):
        for piece in NO_PIECES:
            for at in (0, 1, 15, 31):
                pieces = [1] * 32
                pieces[at] = piece
                for number in (0, 1):
                    self.assertEqual(counted(ALL_SQUARES, pieces, [number] * 32), -2)
                    self.assertEqual(counted(0, pieces, [number] * 32, 1), -2)


if __name__ == "__main__":
    unittest.main()

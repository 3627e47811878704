"""Promises 2 and 6: the pieces that lie in every filling on the same squares."""

import inspect
import unittest

from boards import (
    ALL_SQUARES, DOMINO, GREATEST, LEAST, NO_PIECES, Unchanging, as_answer, block, drawn, random_puzzles, shown, square,
)
from fillboard import puzzles
from fillboard.puzzles import count, forced, nth

CORNER = drawn("## #.")
UPRIGHT = drawn("# #")
J_PIECE = drawn("#. #. ##")
NONE_SUCH = [-3]
TOO_MANY_FILLINGS = [-6]
TOO_MANY = [-7]
NOT_0 = (1, -1, GREATEST, LEAST)


def fixed(board, pieces, counts, the_all=0, most=64):
    """What is answered; the lists that are handed in are watched."""
    return forced(board, len(pieces), the_all, most, Unchanging(pieces), Unchanging(counts))


class TheCall(unittest.TestCase):
    def test_names_and_kinds(self):
        names = ["board", "m", "the_all", "most", "pieces", "counts"]
        self.assertEqual(list(inspect.signature(puzzles.forced).parameters), names)
        answer = forced(board=15, m=1, the_all=0, most=2, pieces=[3], counts=[2])
        self.assertEqual(answer, [2, 0, 3, 0, 12])
        for answer in (answer, fixed(0, [], []), fixed(15, [3], [1]), fixed(15, [5], [1])):
            self.assertIs(type(answer), list)
            self.assertEqual({type(number) for number in answer}, {int})

    def test_what_is_handed_in_stays(self):
        pieces = [DOMINO, CORNER, 1]
        counts = [4, 2, 1]
        for the_all in (0, 1):
            forced(block(3, 3), 3, the_all, 9, pieces, counts)
            self.assertEqual((pieces, counts), ([DOMINO, CORNER, 1], [4, 2, 1]))

    def test_called_again(self):
        calls = [
            (block(4, 1), 1, 0, 3, [DOMINO], [3]),
            (block(2, 2), 1, 0, 3, [DOMINO], [3]),
            (block(4, 1), 1, 0, 1, [DOMINO], [3]),
            (block(4, 1), 1, 1, 3, [DOMINO], [3]),
            (ALL_SQUARES, 1, 0, 3, [DOMINO], [32]),
        ]
        answers = [[2, 0, 3, 0, 12], [0], [-7], [-3], [-6]]
        for call, expected in zip(calls + calls[::-1], answers + answers[::-1]):
            answer = forced(*call)
            self.assertEqual(answer, expected)
            answer[0] = 5
            answer.append(7)
            self.assertEqual(forced(*call), expected)


class Ordinary(unittest.TestCase):
    def test_one_filling(self):
        self.assertEqual(fixed(block(8, 1), [DOMINO], [4]), shown("aabbccdd", [0] * 4))
        self.assertEqual(fixed(block(1, 4, 7, 4), [DOMINO], [4]), shown("a a b b", [0] * 2, 7, 4))
        self.assertEqual(fixed(J_PIECE, [1, J_PIECE], [3, 1]), shown("a. a. aa", [1]))
        self.assertEqual(fixed(drawn("##. .##"), [DOMINO, CORNER], [9, 9]), shown("aa. .bb", [0, 0]))

    def test_one_filling_of_several_pieces(self):
        pieces = [block(2, 2), drawn("#.. #.. ###"), DOMINO]
        self.assertEqual(fixed(drawn("#...... #...... ###..## .....##"), pieces, [1, 1, 1]), [
            2, 1, drawn("#. #. ###"), 0, drawn("## ##", 5, 2),
        ])

    def test_some_of_them(self):
        # Two squares that fill in two ways, and between them what lies alike.
        board = drawn("##..## ##..## ..##..", 1, 5)
        self.assertEqual(count(board, 1, 0, [DOMINO], [5]), [4])
        self.assertEqual(fixed(board, [DOMINO], [5]), shown("...... ...... ..aa..", [0], 1, 5))
        board = drawn("###.##")
        self.assertEqual(fixed(board, [DOMINO, 1], [2, 1]), shown("....aa", [0]))
        self.assertEqual(fixed(board, [1, DOMINO], [1, 2]), shown("....aa", [1]))
        self.assertEqual(fixed(board, [1, DOMINO], [3, 2]), [0])
        pieces = [block(2, 2), drawn("#.. #.. ###"), DOMINO]
        board = drawn("###.. ###.. ###.. ...##")
        self.assertEqual(fixed(board, pieces, [1, 1, 1]), shown("..... ..... ..... ...aa", [2]))

    def test_some_of_them_in_one_part(self):
        # Laid otherwise, the piece in the middle would leave three squares on one side.
        board = drawn("##... ##... .#### ...##", 0, 4)
        self.assertEqual(count(board, 1, 0, [DOMINO], [5]), [4])
        self.assertEqual(fixed(board, [DOMINO], [5]), shown("..... ..... .aa..", [0], 0, 4))

    def test_none_of_them(self):
        for wide, high in ((2, 2), (3, 2), (4, 4), (6, 6), (8, 6)):
            self.assertEqual(fixed(block(wide, high), [DOMINO], [255]), [0])
        self.assertEqual(fixed(block(2, 1), [1, DOMINO], [2, 1]), [0])

    def test_alike_in_the_first_and_the_last_but_not_between(self):
        # In the middle one of the three fillings, the square on the right is another piece's.
        pieces, counts = [DOMINO, 1], [1, 3]
        self.assertEqual(nth(7, 2, 0, 0, 9, pieces, counts), shown("aab", [0, 1]))
        self.assertEqual(nth(7, 2, 0, 1, 9, pieces, counts), shown("abb", [1, 0]))
        self.assertEqual(nth(7, 2, 0, 2, 9, pieces, counts), shown("abc", [1, 1, 1]))
        self.assertEqual(fixed(7, pieces, counts), [0])

    def test_the_same_squares_with_another_piece(self):
        self.assertEqual(fixed(block(2, 1), [DOMINO, DOMINO], [1, 1]), [0])
        self.assertEqual(fixed(block(2, 1), [DOMINO, UPRIGHT], [1, 0]), shown("aa", [0]))
        self.assertEqual(fixed(block(2, 1), [DOMINO, UPRIGHT], [0, 1]), shown("aa", [1]))
        self.assertEqual(fixed(square(0, 0) | square(7, 7), [1, 1], [1, 1]), [0])
        self.assertEqual(fixed(square(0, 0) | square(7, 7), [1, 1], [0, 2]), [2, 1, 1, 1, 1 << 63])
        # Only the place of the straight piece is the same in all of them.
        self.assertEqual(fixed(drawn("###.#.#"), [1, 1, drawn("###")], [1, 1, 1]), shown("aaa....", [2]))

    def test_the_first_fillings_order(self):
        self.assertEqual(
            fixed(drawn("#.##. #...# ....#"), [DOMINO, drawn("# #")], [0, 3]),
            shown("a.bb. a...c ....c", [1, 1, 1]),
        )
        self.assertEqual(
            fixed(drawn("..### #.... #.#.. ....."), [1, UPRIGHT, drawn("# # #")], [1, 1, 1]),
            shown("..aaa b.... b.c..", [2, 1, 0]),
        )

    def test_when_all_have_to_be_used(self):
        for the_all in NOT_0:
            self.assertEqual(fixed(block(3, 1), [DOMINO, 1], [1, 3], the_all), NONE_SUCH)
            self.assertEqual(fixed(block(3, 1), [DOMINO, 1], [1, 1], the_all), [0])
            self.assertEqual(fixed(block(3, 1), [DOMINO, 1], [0, 3], the_all), shown("abc", [1, 1, 1]))
        self.assertEqual(fixed(drawn("##.#"), [DOMINO, 1], [1, 3]), shown("...a", [1]))
        self.assertEqual(fixed(drawn("##.#"), [DOMINO, 1], [1, 1], 1), shown("aa.b", [0, 1]))

    def test_against_a_plain_search(self):
        kinds = {}
        for board, the_all, pieces, counts, fillings in random_puzzles(500):
            answer = NONE_SUCH
            if fillings:
                alike = [lay for lay in fillings[0] if all(lay in filling for filling in fillings)]
                answer = as_answer(alike)
                kinds[len(alike), len(fillings[0]), len(fillings) > 1] = True
            with self.subTest(board=board, the_all=the_all, pieces=pieces, counts=counts):
                self.assertEqual(fixed(board, pieces, counts, the_all), answer)
        self.assertGreater(len(kinds), 15)


class Most(unittest.TestCase):
    def test_just_as_many_and_one_fewer(self):
        answer = shown("aabbccdd", [0] * 4)
        for most in (4, 5, GREATEST):
            self.assertEqual(fixed(block(8, 1), [DOMINO], [4], most=most), answer)
        for most in (0, 1, 3):
            self.assertEqual(fixed(block(8, 1), [DOMINO], [4], most=most), TOO_MANY)

    def test_that_only_the_forced_ones_count(self):
        board = drawn("##..## ##..## ..##..")
        for most in (1, 2, 5):
            self.assertEqual(fixed(board, [DOMINO], [5], most=most), shown("...... ...... ..aa..", [0]))
        self.assertEqual(fixed(board, [DOMINO], [5], most=0), TOO_MANY)

    def test_none(self):
        self.assertEqual(fixed(block(4, 4), [DOMINO], [8], most=0), [0])
        self.assertEqual(fixed(1, [1], [1], most=0), TOO_MANY)
        self.assertEqual(fixed(0, [1], [1], most=0), [0])

    def test_sixty_four(self):
        answer = as_answer([(0, 1 << bit) for bit in range(64)])
        self.assertEqual(fixed(ALL_SQUARES, [1], [64], most=64), answer)
        self.assertEqual(fixed(ALL_SQUARES, [1], [64], most=63), TOO_MANY)


class NoneAndTheEmptyBoard(unittest.TestCase):
    def test_no_filling(self):
        for the_all in NOT_0 + (0,):
            for most in (0, 64):
                self.assertEqual(fixed(1, [], [], the_all, most), NONE_SUCH)
                self.assertEqual(fixed(1, [1], [0], the_all, most), NONE_SUCH)
                self.assertEqual(fixed(block(3, 3), [DOMINO], [9], the_all, most), NONE_SUCH)
                self.assertEqual(fixed(ALL_SQUARES, [1], [63], the_all, most), NONE_SUCH)

    def test_the_empty_board(self):
        for most in (0, 1):
            for the_all in NOT_0 + (0,):
                self.assertEqual(fixed(0, [], [], the_all, most), [0])
                self.assertEqual(fixed(0, [1, DOMINO], [0, 0], the_all, most), [0])
            self.assertEqual(fixed(0, [1, DOMINO], [0, 1], 0, most), [0])
            for the_all in NOT_0:
                self.assertEqual(fixed(0, [1, DOMINO], [0, 1], the_all, most), NONE_SUCH)


class AMillion(unittest.TestCase):
    # Each of six parts has ten pieces to choose from; beside them, one square has but one.
    BOARD = drawn("##.##.## ........ ##.##.##") | square(7, 7)
    PIECES = [DOMINO] * 10 + [1]
    ALIKE = [1, 10, 1 << 63]

    def test_just_below(self):
        counts = [6] * 9 + [5, 1]
        self.assertEqual(count(self.BOARD, 11, 0, self.PIECES, counts), [999999])
        self.assertEqual(fixed(self.BOARD, self.PIECES, counts), self.ALIKE)
        self.assertEqual(fixed(self.BOARD, self.PIECES, counts, most=1), self.ALIKE)
        self.assertEqual(fixed(self.BOARD, self.PIECES, counts, most=0), TOO_MANY)
        self.assertEqual(fixed(block(6, 1), [1] * 10, [6] * 9 + [5], most=0), [0])

    def test_just_as_many(self):
        for number in (6, 255):
            for most in (0, 1, 64):
                self.assertEqual(fixed(self.BOARD, self.PIECES, [number] * 10 + [1], most=most), TOO_MANY_FILLINGS)
                self.assertEqual(fixed(block(6, 1), [1] * 10, [number] * 10, most=most), TOO_MANY_FILLINGS)

    def test_more(self):
        for most in (0, 1, 64):
            answer = fixed(self.BOARD, [DOMINO] + self.PIECES, [1] + [6] * 10 + [1], most=most)
            self.assertEqual(answer, TOO_MANY_FILLINGS)
            self.assertEqual(fixed(ALL_SQUARES, [DOMINO], [32], most=most), TOO_MANY_FILLINGS)

    def test_many_in_one_part(self):
        board = block(8, 6) | block(2, 1, 0, 7)
        self.assertEqual(count(board, 1, 0, [DOMINO], [255]), [167089])
        self.assertEqual(fixed(board, [DOMINO], [255]), [1, 0, block(2, 1, 0, 7)])


class Refusals(unittest.TestCase):
    def test_m_out_of_its_range(self):
        for m in (-1, 33, LEAST, GREATEST):
            for board in (0, 1, ALL_SQUARES):
                for most in (0, 64, -1):
                    self.assertEqual(forced(board, m, 0, most, [], []), [-8])
                    self.assertEqual(forced(board, m, 1, most, [], []), [-8])

    def test_m_at_the_edges_of_its_range(self):
        self.assertEqual(forced(0, 0, 0, 0, [], []), [0])
        self.assertEqual(forced(1, 0, 0, 0, [], []), NONE_SUCH)
        self.assertEqual(forced(1, 32, 0, 1, [1] * 32, [0] * 31 + [1]), [1, 31, 1])

    def test_most_out_of_its_range(self):
        for most in (-1, LEAST):
            for board in (0, 1, ALL_SQUARES):
                self.assertEqual(fixed(board, [1], [64], most=most), [-8])
                self.assertEqual(fixed(board, [DOMINO], [32], most=most), [-8])

    def test_out_of_range_before_no_piece(self):
        for piece in NO_PIECES:
            for most in (-1, LEAST):
                self.assertEqual(fixed(1, [1, piece], [1, 1], most=most), [-8])

    def test_no_piece_before_what_comes_of_the_search(self):
        for piece in NO_PIECES:
            for number in (0, 1):
                for pieces in ([DOMINO, piece], [piece, DOMINO]):
                    counts = [32 if one == DOMINO else number for one in pieces]
                    self.assertEqual(fixed(ALL_SQUARES, pieces, counts), [-2])
                    self.assertEqual(fixed(1, pieces, counts), [-2])
                    self.assertEqual(fixed(3, pieces, counts, most=0), [-2])
                    self.assertEqual(fixed(0, pieces, counts, 1), [-2])


if __name__ == "__main__":
    unittest.main()

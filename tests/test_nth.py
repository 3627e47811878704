"""Promises 2 and 4: the order of the fillings, and the k-th of them."""

import inspect
import unittest

from boards import (
    ALL_SQUARES, DOMINO, GREATEST, LEAST, NO_PIECES, Unchanging, as_answer, block, drawn, drawn_as, random_puzzles,
    shown,
)
from fillboard import puzzles
from fillboard.puzzles import nth

LAST = 999999
CORNER = drawn("## #.")
UPRIGHT = drawn("# #")
NONE_SUCH = [-3]
TOO_MANY = [-7]


def kth(board, pieces, counts, k, the_all=0, most=64):
    """What is answered; the lists that are handed in are watched."""
    return nth(board, len(pieces), the_all, k, most, Unchanging(pieces), Unchanging(counts))


class TheCall(unittest.TestCase):
    def test_names_and_kinds(self):
        names = ["board", "m", "the_all", "k", "most", "pieces", "counts"]
        self.assertEqual(list(inspect.signature(puzzles.nth).parameters), names)
        answer = nth(board=15, m=1, the_all=0, k=0, most=2, pieces=[3], counts=[2])
        self.assertEqual(answer, [2, 0, 3, 0, 12])
        for answer in (answer, kth(15, [3], [2], 1), kth(0, [], [], 0), kth(15, [3], [2], -1)):
            self.assertIs(type(answer), list)
            self.assertEqual({type(number) for number in answer}, {int})

    def test_what_is_handed_in_stays(self):
        pieces = [DOMINO, CORNER, 1]
        counts = [4, 2, 1]
        for k in (0, 1, LAST):
            for the_all in (0, 1):
                nth(block(3, 3), 3, the_all, k, 9, pieces, counts)
                self.assertEqual((pieces, counts), ([DOMINO, CORNER, 1], [4, 2, 1]))

    def test_called_again(self):
        calls = [(block(3, 2), 1, 0, k, 3, [DOMINO], [3]) for k in (2, 0, 3, 1)]
        calls += [(block(3, 2), 1, 0, 0, 2, [DOMINO], [3]), (block(3, 2), 1, 0, 0, 3, [UPRIGHT], [3])]
        answers = [nth(*call) for call in calls]
        kept = [list(answer) for answer in answers]
        for answer in answers:
            answer[0] = 77
            answer.append(5)
        for call, expected in list(zip(calls, kept))[::-1]:
            self.assertEqual(nth(*call), expected)


class TheOrder(unittest.TestCase):
    def check(self, board, pieces, counts, fillings, the_all=0):
        """Each k in turn, and the one behind the last."""
        for k, filling in enumerate(fillings):
            self.assertEqual(kth(board, pieces, counts, k, the_all), filling, k)
        for k in (len(fillings), len(fillings) + 1, LAST):
            self.assertEqual(kth(board, pieces, counts, k, the_all), NONE_SUCH, k)

    def test_of_the_ways(self):
        self.check(block(2, 2), [DOMINO], [2], [shown("aa bb", [0, 0]), shown("ab ab", [0, 0])])
        # The way in which a piece is handed in is its first.
        self.check(block(2, 2), [UPRIGHT], [2], [shown("ab ab", [0, 0]), shown("aa bb", [0, 0])])
        self.check(block(2, 2), [UPRIGHT << 63 - 8], [2], [shown("ab ab", [0, 0]), shown("aa bb", [0, 0])])

    def test_of_four_ways(self):
        # A fourth way, in which the first square lies to the right, would leave the board.
        first, second, third = (shown(text, [0, 1]) for text in ("aa ab", "aa ba", "ab aa"))
        last = shown("ab bb", [1, 0])
        self.check(block(2, 2), [drawn("## #."), 1], [1, 1], [first, second, third, last])
        self.check(block(2, 2), [drawn("## .#"), 1], [1, 1], [second, third, first, last])
        self.check(block(2, 2), [drawn(".# ##"), 1], [1, 1], [third, first, second, last])
        self.check(block(2, 2), [drawn("#. ##"), 1], [1, 1], [third, first, second, last])

    def test_of_eight_ways(self):
        board = "..### ##### .####"
        lying = [
            "..a.. ..a.. ..aa.", "..aaa ..a.. .....", "..aa. ...a. ...a.", "..a.. aaa.. .....",
            "..a.. ..a.. .aa..", "..a.. ..aaa .....", "..aa. ..a.. ..a..", "..aaa ....a .....",
        ]
        turns = ["#. #. ##", "### #..", "## .# .#", "..# ###"]
        mirrors = [".# .# ##", "#.. ###", "## #. #.", "### ..#"]
        for x, y in ((0, 0), (3, 5)):
            for at in range(4):
                # Turned on, the mirror comes to lie turned back.
                order = lying[at:4] + lying[:at] + lying[8 - at:] + lying[4:8 - at]
                self.check_first(drawn(board, x, y), drawn(turns[at]), [drawn_as(one, "a", x, y) for one in order])
                order = lying[4 + at:] + lying[4:4 + at] + lying[4 - at:4] + lying[:4 - at]
                self.check_first(drawn(board, x, y), drawn(mirrors[at]), [drawn_as(one, "a", x, y) for one in order])

    def check_first(self, board, piece, lying):
        """The piece lies so in the first fillings, one after another, among pieces of one square."""
        for k, squares in enumerate(lying):
            ones = [(1, 1 << bit) for bit in range(64) if board & ~squares & 1 << bit]
            self.assertEqual(kth(board, [piece, 1], [1, 64], k), as_answer([(0, squares)] + ones))
        self.assertEqual(kth(board, [piece, 1], [1, 64], len(lying))[1], 1)

    def test_of_the_pieces(self):
        two_ways = [shown("aa bb", [0, 1]), shown("ab ab", [0, 1]), shown("aa bb", [1, 0]), shown("ab ab", [1, 0])]
        self.check(block(2, 2), [DOMINO, UPRIGHT], [1, 1], [two_ways[0], two_ways[1], two_ways[3], two_ways[2]])
        self.check(block(2, 2), [DOMINO, DOMINO], [1, 1], two_ways)
        self.check(block(2, 2), [UPRIGHT, DOMINO], [1, 1], [two_ways[1], two_ways[0], two_ways[2], two_ways[3]])

    def test_of_one_shape_told_as_two(self):
        numbers = [[0, 0, 0], [0, 0, 1], [0, 1, 0], [0, 1, 1], [1, 0, 0], [1, 0, 1], [1, 1, 0], [1, 1, 1]]
        for x, y in ((0, 0), (5, 7)):
            board = block(3, 1, x, y)
            told = [shown("abc", order, x, y) for order in numbers]
            self.check(board, [1, 1], [3, 3], told)
            self.check(board, [1, 1], [255, 3], told)
            self.check(board, [1, 1], [2, 3], told[1:])
            self.check(board, [1, 1], [2, 2], told[1:7])
            self.check(board, [1, 1], [1, 2], [told[3], told[5], told[6]])
            self.check(board, [1, 1], [0, 3], [told[7]])

    def test_that_pieces_of_which_there_are_none_keep_their_numbers(self):
        self.check(block(2, 1), [1, DOMINO, 1], [0, 1, 2], [shown("aa", [1]), shown("ab", [2, 2])])
        self.check(block(2, 1), [1, DOMINO, 1], [2, 0, 0], [shown("ab", [0, 0])])

    def test_of_the_squares(self):
        self.check(block(3, 2), [DOMINO], [3], [
            shown("aab ccb", [0, 0, 0]), shown("abb acc", [0, 0, 0]), shown("abc abc", [0, 0, 0]),
        ])

    def test_of_a_smaller_piece_behind_a_larger_one(self):
        self.check(block(3, 1), [drawn("###"), DOMINO, 1], [1, 1, 3], [
            shown("aaa", [0]), shown("aab", [1, 2]), shown("abb", [2, 1]), shown("abc", [2, 2, 2]),
        ])
        self.check(block(3, 1), [1, DOMINO, drawn("###")], [3, 1, 1], [
            shown("abc", [0, 0, 0]), shown("abb", [0, 1]), shown("aab", [1, 0]), shown("aaa", [2]),
        ])

    def test_on_boards_in_parts_and_with_holes(self):
        ring = [shown("aab c.b cdd", [0, 0, 0, 0], 5, 5), shown("abb a.c ddc", [0, 0, 0, 0], 5, 5)]
        self.check(drawn("### #.# ###", 5, 5), [DOMINO], [4], ring)
        parts = "##..## ##..##"
        self.check(drawn(parts, 2, 6), [DOMINO], [4], [
            shown("aa..bb cc..dd", [0] * 4, 2, 6), shown("aa..bc dd..bc", [0] * 4, 2, 6),
            shown("ab..cc ab..dd", [0] * 4, 2, 6), shown("ab..cd ab..cd", [0] * 4, 2, 6),
        ])

    def test_when_all_have_to_be_used(self):
        pieces = [DOMINO, 1]
        some = [
            shown("aab", [0, 1]), shown("abb", [1, 0]), shown("abc", [1, 1, 1]),
        ]
        self.check(block(3, 1), pieces, [1, 3], some)
        for the_all in (1, -1, GREATEST, LEAST):
            self.check(block(3, 1), pieces, [1, 3], [], the_all)
            self.check(block(3, 1), pieces, [1, 1], some[:2], the_all)
            self.check(block(3, 1), pieces, [0, 3], some[2:], the_all)

    def test_against_a_plain_search(self):
        for board, the_all, pieces, counts, fillings in random_puzzles(350):
            answers = [as_answer(filling) for filling in fillings] + [NONE_SUCH]
            with self.subTest(board=board, the_all=the_all, pieces=pieces, counts=counts):
                for k in list(range(0, len(answers), 1 + len(answers) // 10)) + [len(fillings)]:
                    self.assertEqual(kth(board, pieces, counts, k, the_all), answers[k])


class ManyFillings(unittest.TestCase):
    def digits(self, k, ones=10):
        """The answer for six squares of which each has so many pieces of one square to choose from."""
        answer = []
        for at in range(6):
            answer = [k % ones, 1 << (5 - at)] + answer
            k //= ones
        return [6] + answer

    def test_a_million(self):
        for k in (0, 1, 9, 10, 123456, 500000, 999990, 999998, LAST):
            for number in (6, 7, 255):
                self.assertEqual(kth(block(6, 1), [1] * 10, [number] * 10, k), self.digits(k))
        self.assertEqual(kth(block(6, 1), [1] * 10, [6] * 9 + [5], LAST - 1), self.digits(LAST - 1))
        self.assertEqual(kth(block(6, 1), [1] * 10, [6] * 9 + [5], LAST), NONE_SUCH)
        self.assertEqual(kth(block(6, 1), [1] * 10, [5] + [6] * 9, LAST - 1), self.digits(LAST))
        self.assertEqual(kth(block(6, 1), [1] * 10, [5] + [6] * 9, LAST), NONE_SUCH)

    def test_more_than_a_million(self):
        for k in (0, 5, 161050, LAST):
            self.assertEqual(kth(block(6, 1), [1] * 11, [6] * 11, k), self.digits(k, 11))

    def test_dominoes_on_the_whole_board(self):
        rows = [(0, drawn("##", x, y)) for y in range(8) for x in (0, 2, 4, 6)]
        self.assertEqual(kth(ALL_SQUARES, [DOMINO], [32], 0), as_answer(rows))
        columns = [(0, drawn("# #", x, y)) for y in (0, 2, 4, 6) for x in range(8)]
        self.assertEqual(kth(ALL_SQUARES, [UPRIGHT], [32], 0), as_answer(columns))
        answer = kth(ALL_SQUARES, [DOMINO], [32], LAST)
        self.assertEqual(answer[0], 32)
        self.assertEqual(sum(answer[2::2]), ALL_SQUARES)

    def test_sixty_four_pieces(self):
        self.assertEqual(kth(ALL_SQUARES, [1], [64], 0), as_answer([(0, 1 << bit) for bit in range(64)]))
        self.assertEqual(kth(ALL_SQUARES, [1], [64], 0, most=63), TOO_MANY)
        self.assertEqual(kth(ALL_SQUARES, [1], [64], 1), NONE_SUCH)


class Most(unittest.TestCase):
    def test_just_as_many_and_one_fewer(self):
        filling = shown("aab ccb", [0, 0, 0])
        for most in (3, 4, 64, GREATEST):
            self.assertEqual(kth(block(3, 2), [DOMINO], [3], 0, most=most), filling)
        for most in (0, 1, 2):
            self.assertEqual(kth(block(3, 2), [DOMINO], [3], 0, most=most), TOO_MANY)

    def test_fillings_with_more_and_with_fewer_pieces(self):
        pieces, counts = [1, DOMINO], [2, 1]
        self.assertEqual(kth(3, pieces, counts, 0, most=1), TOO_MANY)
        self.assertEqual(kth(3, pieces, counts, 1, most=1), [1, 1, 3])
        self.assertEqual(kth(3, pieces, counts, 1, most=0), TOO_MANY)
        self.assertEqual(kth(3, pieces, counts, 2, most=1), NONE_SUCH)

    def test_none(self):
        self.assertEqual(kth(0, [DOMINO], [1], 0, most=0), [0])
        self.assertEqual(kth(1, [1], [1], 0, most=0), TOO_MANY)
        self.assertEqual(kth(1, [DOMINO], [1], 0, most=0), NONE_SUCH)


class TheEmptyBoard(unittest.TestCase):
    def test_one_filling(self):
        for the_all in (0, 1, LEAST):
            for pieces, counts in (([], []), ([1, DOMINO], [0, 0])):
                for most in (0, 1, GREATEST):
                    self.assertEqual(kth(0, pieces, counts, 0, the_all, most), [0])
                    self.assertEqual(kth(0, pieces, counts, 1, the_all, most), NONE_SUCH)
                    self.assertEqual(kth(0, pieces, counts, LAST, the_all, most), NONE_SUCH)

    def test_pieces_left_over(self):
        self.assertEqual(kth(0, [1, DOMINO], [0, 1], 0), [0])
        self.assertEqual(kth(0, [1, DOMINO], [0, 1], 1), NONE_SUCH)
        for the_all in (1, -1, GREATEST, LEAST):
            self.assertEqual(kth(0, [1, DOMINO], [0, 1], 0, the_all), NONE_SUCH)
            self.assertEqual(kth(0, [1, DOMINO], [0, 1], 0, the_all, 0), NONE_SUCH)


class Refusals(unittest.TestCase):
    def test_m_out_of_its_range(self):
        for m in (-1, 33, LEAST, GREATEST):
            for board in (0, ALL_SQUARES):
                self.assertEqual(nth(board, m, 0, 0, 0, [], []), [-8])
                self.assertEqual(nth(board, m, 1, LAST, 64, [], []), [-8])

    def test_m_at_the_edges_of_its_range(self):
        self.assertEqual(nth(0, 0, 0, 0, 0, [], []), [0])
        self.assertEqual(nth(1, 0, 0, 0, 0, [], []), NONE_SUCH)
        self.assertEqual(nth(1, 32, 0, 31, 1, [1] * 32, [1] * 32), [1, 31, 1])

    def test_k_out_of_its_range(self):
        for k in (-1, LAST + 1, LEAST, GREATEST):
            for board in (0, 1, block(6, 1)):
                self.assertEqual(kth(board, [1] * 10, [6] * 10, k), [-8])
                self.assertEqual(kth(board, [DOMINO], [0], k), [-8])

    def test_most_out_of_its_range(self):
        for most in (-1, LEAST):
            for board in (0, 1, 15):
                self.assertEqual(kth(board, [1], [1], 0, most=most), [-8])

    def test_out_of_range_before_no_piece(self):
        for piece in NO_PIECES:
            for k, most in ((-1, 5), (LAST + 1, 5), (0, -1), (GREATEST, LEAST)):
                self.assertEqual(kth(1, [1, piece], [1, 1], k, most=most), [-8])

    def test_no_piece_before_what_comes_of_the_search(self):
        for piece in NO_PIECES:
            for number in (0, 1):
                for pieces in ([1, piece], [piece, 1]):
                    self.assertEqual(kth(1, pieces, [number] * 2, 0), [-2])
                    self.assertEqual(kth(1, pieces, [number] * 2, LAST), [-2])
                    self.assertEqual(kth(1, pieces, [number] * 2, 0, most=0), [-2])
                    self.assertEqual(kth(0, pieces, [number] * 2, 0, 1, 0), [-2])

    def test_not_so_many_before_more_than_most(self):
        self.assertEqual(kth(15, [DOMINO], [2], 1, most=0), NONE_SUCH)
        self.assertEqual(kth(15, [DOMINO], [2], 0, most=0), TOO_MANY)
        self.assertEqual(kth(15, [DOMINO], [1], 0, most=0), NONE_SUCH)
        self.assertEqual(kth(15, [DOMINO], [3], 0, 1, 0), NONE_SUCH)


if __name__ == "__main__":
    unittest.main()

"""Promise 1: the ways of a piece to lie."""

import inspect
import unittest

from boards import ALL_SQUARES, drawn, in_corner, square
from fillboard import puzzles
from fillboard.puzzles import ways

NONE = [-2]


def told(*drawings):
    return [len(drawings)] + [drawn(one) for one in drawings]


def size(text):
    rows = text.split()
    return len(rows[0]), len(rows)


def joined_by_bits(number):
    """A second way to tell a joined set, by shifts of the whole set."""
    column_0 = 0x0101010101010101
    reached = number & -number
    while True:
        grown = reached | reached << 8 | reached >> 8
        grown |= (reached & ~(column_0 << 7)) << 1 | (reached & ~column_0) >> 1
        grown &= number
        if grown == reached:
            return reached == number
        reached = grown


def grown_pieces(most):
    """For each size from 1, all the pieces that lie as far to x 0 and y 0 as they go."""
    sizes = [{frozenset([(0, 0)])}]
    while len(sizes) < most:
        larger = set()
        for piece in sizes[-1]:
            for x, y in piece:
                for place in ((x + 1, y), (x - 1, y), (x, y + 1), (x, y - 1)):
                    if place not in piece:
                        larger.add(in_corner(piece | {place}))
        sizes.append(larger)
    return [[sum(square(x, y) for x, y in piece) for piece in pieces] for pieces in sizes]


class TheCall(unittest.TestCase):
    def test_names_and_kinds(self):
        self.assertEqual(list(inspect.signature(puzzles.ways).parameters), ["piece"])
        for piece in (0, 1, drawn("##. .##"), ALL_SQUARES):
            answer = ways(piece=piece)
            self.assertIs(type(answer), list)
            self.assertEqual({type(number) for number in answer}, {int})

    def test_called_again(self):
        for text in ("#", "##", "#. #. ##", "### .#."):
            piece = drawn(text)
            first = ways(piece)
            kept = list(first)
            self.assertEqual(ways(piece), kept)
            first.append(5)
            first[0] = -1
            self.assertEqual(ways(piece), kept)

    def test_called_again_after_a_refusal(self):
        refusal = ways(0)
        refusal.append(1)
        self.assertEqual(ways(0), NONE)
        self.assertEqual(ways(1), [1, 1])
        self.assertEqual(ways(0), NONE)


class OrdinaryPieces(unittest.TestCase):
    ANSWERS = [
        # One way.
        ("## ##",),
        (".#. ### .#.",),
        ("### #.# ###",),
        # Two ways, by a turn.
        ("##", "# #"),
        ("# #", "##"),
        ("####", "# # # #"),
        ("### ###", "## ## ##"),
        ("#.# ### #.#", "### .#. ###"),
        # Two ways, by the mirror alone.
        (".#.. .### ###. ..#.", "..#. ###. .### .#.."),
        # Four ways, by turns alone.
        ("## #.", "## .#", ".# ##", "#. ##"),
        ("### .#.", ".# ## .#", ".#. ###", "#. ## #."),
        ("#.# ###", "## #. ##", "### #.#", "## .# ##"),
        ("#.. #.. ###", "### #.. #..", "### ..# ..#", "..# ..# ###"),
        # Four ways, two of them by the mirror.
        (".## ##.", "#. ## .#", "##. .##", ".# ## #."),
        ("##. .#. .##", "..# ### #..", ".## .#. ##.", "#.. ### ..#"),
        # Eight ways.
        ("#. #. ##", "### #..", "## .# .#", "..# ###", ".# .# ##", "#.. ###", "## #. #.", "### ..#"),
        ("## ## #.", "### .##", ".# ## ##", "##. ###", "## ## .#", ".## ###", "#. ## ##", "### ##."),
        (
            ".## ##. .#.", ".#. ### ..#", ".#. .## ##.", "#.. ### .#.",
            "##. .## .#.", "..# ### .#.", ".#. ##. .##", ".#. ### #..",
        ),
        (
            "####### #......", "## .# .# .# .# .# .#", "......# #######", "#. #. #. #. #. #. ##",
            "####### ......#", ".# .# .# .# .# .# ##", "#...... #######", "## #. #. #. #. #. #.",
        ),
    ]

    def test_whole_answers(self):
        for drawings in self.ANSWERS:
            with self.subTest(drawings[0]):
                self.assertEqual(ways(drawn(drawings[0])), told(*drawings))

    def test_the_same_at_every_place(self):
        for drawings in self.ANSWERS:
            wide, high = size(drawings[0])
            for x in range(9 - wide):
                for y in range(9 - high):
                    with self.subTest(drawings[0], x=x, y=y):
                        self.assertEqual(ways(drawn(drawings[0], x, y)), told(*drawings))

    def test_as_numbers(self):
        # Squares 0,0 1,0 0,1; then 0,0 1,0 1,1; then 1,0 0,1 1,1; then 0,0 0,1 1,1.
        self.assertEqual(ways(1 + 2 + 256), [4, 1 + 2 + 256, 1 + 2 + 512, 2 + 256 + 512, 1 + 256 + 512])

    def test_every_piece(self):
        # How many pieces there are, told apart by turns and mirrors and not, is well known.
        all_lying = [1, 2, 6, 19, 63, 216, 760, 2725]
        apart = [1, 1, 2, 5, 12, 35, 108, 369]
        for pieces, lying, shapes in zip(grown_pieces(8), all_lying, apart):
            self.assertEqual(len(pieces), lying)
            families = set()
            for piece in pieces:
                answer = ways(piece)
                self.assertEqual(answer[0], len(answer) - 1)
                self.assertIn(answer[0], (1, 2, 4, 8))
                self.assertEqual(answer[1], piece)
                families.add(tuple(sorted(answer[1:])))
            self.assertEqual(len(families), shapes)
            self.assertEqual(sum(len(family) for family in families), lying)


class Edges(unittest.TestCase):
    def test_one_square(self):
        for bit in range(64):
            self.assertEqual(ways(1 << bit), [1, 1])

    def test_rows_and_columns_of_eight(self):
        row = 255
        column = 0x0101010101010101
        for k in range(8):
            self.assertEqual(ways(row << (8 * k)), [2, row, column])
            self.assertEqual(ways(column << k), [2, column, row])

    def test_the_last_squares(self):
        self.assertEqual(ways(1 << 63), [1, 1])
        self.assertEqual(ways(drawn("##", 6, 7)), [2, 3, 257])
        self.assertEqual(ways(drawn("# #", 7, 6)), [2, 257, 3])
        self.assertEqual(
            ways(drawn("..# ..# ###", 5, 5)),
            told("..# ..# ###", "#.. #.. ###", "### #.. #..", "### ..# ..#"),
        )
        self.assertEqual(ways(drawn("#### ####", 4, 6)), told("#### ####", "## ## ## ##"))

    def test_around_a_hole(self):
        self.assertEqual(ways(drawn("### #.# ###", 5, 5)), told("### #.# ###"))

    def test_eight_squares_but_not_nine(self):
        self.assertEqual(ways(drawn("### ### ##."))[0], 4)
        self.assertEqual(ways(drawn("### ### ###")), NONE)
        self.assertEqual(ways(drawn("######## #.......")), NONE)


class WhatIsNone(unittest.TestCase):
    def test_the_empty_set(self):
        self.assertEqual(ways(0), NONE)

    def test_too_many_squares(self):
        for text in ("### ### ###", "##### ####.", "#### #### ####", "######## ########"):
            self.assertEqual(ways(drawn(text)), NONE)
        self.assertEqual(ways(ALL_SQUARES), NONE)
        self.assertEqual(ways(ALL_SQUARES - 1), NONE)
        self.assertEqual(ways(ALL_SQUARES // 2), NONE)

    def test_not_joined(self):
        for text in ("#.#", "# . #", "####.###", "##.## ##.##", "#.# #.# #.#", "#......# ........ #......#"):
            with self.subTest(text):
                self.assertEqual(ways(drawn(text)), NONE)
        self.assertEqual(ways(square(0, 0) | square(7, 7)), NONE)
        self.assertEqual(ways(square(0, 0) | square(0, 7)), NONE)
        self.assertEqual(ways(square(0, 0) | square(7, 0)), NONE)

    def test_corners_only(self):
        for text in ("#. .#", ".# #.", "##.. ##.. ..## ..##", ".#. #.# .#."):
            with self.subTest(text):
                self.assertEqual(ways(drawn(text)), NONE)

    def test_neighbours_by_bits_only(self):
        for y in range(7):
            self.assertEqual(ways(square(7, y) | square(0, y + 1)), NONE)
            self.assertEqual(ways(drawn("##", 6, y) | drawn("##", 0, y + 1)), NONE)
            self.assertEqual(ways(drawn("####", 4, y) | drawn("####", 0, y + 1)), NONE)

    def test_every_set_of_a_small_part(self):
        # The part lies at the edges where x is 7 and y is 7.
        places = [square(x, y) for y in (5, 6, 7) for x in (4, 5, 6, 7)]
        for chosen in range(1 << len(places)):
            number = sum(place for k, place in enumerate(places) if chosen >> k & 1)
            good = 1 <= bin(chosen).count("1") <= 8 and joined_by_bits(number)
            self.assertEqual(ways(number) != NONE, good, number)

    def test_every_set_across_two_edges(self):
        places = [square(x, y) for y in (2, 3, 4) for x in (0, 1, 6, 7)]
        for chosen in range(1, 1 << len(places)):
            number = sum(place for k, place in enumerate(places) if chosen >> k & 1)
            good = bin(chosen).count("1") <= 8 and joined_by_bits(number)
            self.assertEqual(ways(number) != NONE, good, number)


if __name__ == "__main__":
    unittest.main()

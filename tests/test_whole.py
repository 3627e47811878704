"""What holds over the whole program: nothing handed in is changed, nothing is kept, nothing is nested deep."""

import contextlib
import inspect
import io
import itertools
import sys
import unittest
import unittest.mock

from boards import ALL_SQUARES, DOMINO, GREATEST, LEAST, Unchanging, block, drawn
from fillboard.puzzles import count, different, forced, nth, ways

CORNER = drawn("## #.")
PIECES = [DOMINO, CORNER, 1, 1]
COUNTS = [2, 2, 1, 255]


def calls(pieces, counts):
    """Each function with ordinary, with edge and with wrong arguments."""
    m = len(pieces)
    found = [(ways, (piece,)) for piece in (0, 1, 5, CORNER, ALL_SQUARES)]
    for board in (0, 3, block(3, 2), block(2, 2, 6, 6)):
        for the_all in (0, 1):
            found.append((count, (board, m, the_all, pieces, counts)))
            found.append((different, (board, m, the_all, pieces, counts)))
            for most in (-1, 0, 64):
                found.append((forced, (board, m, the_all, most, pieces, counts)))
                for k in (-1, 0, 3, 999999):
                    found.append((nth, (board, m, the_all, k, most, pieces, counts)))
    return found


def every_call():
    found = calls(PIECES, COUNTS)
    found += calls(PIECES[::-1], COUNTS[::-1])
    found += calls(PIECES, [1, 1, 1, 0])
    found += calls([DOMINO, 5], [3, 0])
    found += calls([], [])
    for m in (-1, 33, LEAST, GREATEST):
        found += [(count, (3, m, 0, [], [])), (different, (3, m, 0, [], []))]
        found += [(nth, (3, m, 0, 0, 1, [], [])), (forced, (3, m, 0, 1, [], []))]
    return found


class NothingIsChanged(unittest.TestCase):
    def test_lists_that_are_watched(self):
        for function, arguments in every_call():
            watched = [Unchanging(one) if isinstance(one, list) else one for one in arguments]
            self.assertEqual(function(*watched), function(*arguments))

    def test_lists_are_as_they_were(self):
        for function, arguments in every_call():
            before = [list(one) if isinstance(one, list) else one for one in arguments]
            function(*arguments)
            self.assertEqual(list(arguments), before)

    def test_what_is_given_back_is_not_what_was_handed_in(self):
        for function, arguments in every_call():
            answer = function(*arguments)
            answer.clear()
        self.assertEqual((PIECES, COUNTS), ([DOMINO, CORNER, 1, 1], [2, 2, 1, 255]))


class NothingIsKept(unittest.TestCase):
    def test_any_order(self):
        made = every_call()
        answers = [function(*arguments) for function, arguments in made]
        kept = [list(answer) for answer in answers]
        for answer in answers:
            answer[0] = 99
            answer += [1, 2, 3]
        for (function, arguments), expected in reversed(list(zip(made, kept))):
            self.assertEqual(function(*arguments), expected)
        for (function, arguments), expected in list(zip(made, kept))[1::3] + list(zip(made, kept))[::2]:
            self.assertEqual(function(*arguments), expected)

    def test_every_order_of_the_five(self):
        board = block(3, 2)
        five = [
            (lambda: ways(CORNER), [4, 259, 515, 770, 769]),
            (lambda: count(board, 1, 0, [DOMINO], [3]), [3]),
            (lambda: nth(board, 1, 0, 2, 3, [DOMINO], [3]), [3, 0, 257, 0, 514, 0, 1028]),
            (lambda: different(board, 1, 0, [DOMINO], [3]), [2]),
            (lambda: forced(board, 1, 0, 3, [DOMINO], [3]), [0]),
        ]
        for order in itertools.permutations(five):
            for call, expected in order:
                answer = call()
                self.assertEqual(answer, expected)
                answer.append(8)
                answer[0] = -1

    def test_what_is_kept_within_a_call_changes_no_answer(self):
        made = every_call()
        answers = [function(*arguments) for function, arguments in made]
        for most in (0, 1, 7):
            with unittest.mock.patch("fillboard.lays.MOST_KEPT", most):
                self.assertEqual([function(*arguments) for function, arguments in made], answers)
                self.assertEqual(count(block(4, 4), 1, 0, [DOMINO], [8]), [36])
                self.assertEqual(different(block(4, 4), 1, 0, [DOMINO], [8]), [9])
                self.assertEqual(forced(block(4, 4) | 1 << 63, 2, 1, 1, [DOMINO, 1], [8, 1]), [1, 1, 1 << 63])

    def test_a_changed_list_is_read_anew(self):
        pieces = [DOMINO, 1]
        counts = [1, 0]
        self.assertEqual(count(3, 2, 0, pieces, counts), [1])
        counts[1] = 2
        self.assertEqual(count(3, 2, 0, pieces, counts), [2])
        self.assertEqual(forced(3, 2, 0, 9, pieces, counts), [0])
        pieces[0] = CORNER
        self.assertEqual(count(3, 2, 0, pieces, counts), [1])
        self.assertEqual(forced(3, 2, 0, 9, pieces, counts), [2, 1, 1, 1, 2])
        pieces[0] = 5
        self.assertEqual(count(3, 2, 0, pieces, counts), [-2])


class NothingElse(unittest.TestCase):
    def test_nothing_is_printed(self):
        out = io.StringIO()
        with contextlib.redirect_stdout(out), contextlib.redirect_stderr(out):
            for function, arguments in every_call():
                function(*arguments)
        self.assertEqual(out.getvalue(), "")

    def test_whole_numbers_alone_are_given_back(self):
        for function, arguments in every_call():
            answer = function(*arguments)
            self.assertIs(type(answer), list)
            self.assertEqual({type(number) for number in answer}, {int})

    def test_few_calls_within_one_another(self):
        allowed = sys.getrecursionlimit()
        sys.setrecursionlimit(len(inspect.stack()) + 25)
        try:
            whole = nth(ALL_SQUARES, 1, 0, 0, 64, [1], [64])
            alike = forced(ALL_SQUARES, 1, 1, 64, [1], [64])
            number = count(ALL_SQUARES, 2, 0, [1, 1], [64, 1])
            turned = different(ALL_SQUARES, 2, 0, [1, 1], [64, 1])
        finally:
            sys.setrecursionlimit(allowed)
        self.assertEqual((whole[0], alike, number, turned), (64, whole, [65], [11]))


if __name__ == "__main__":
    unittest.main()

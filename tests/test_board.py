"""The call board: how many rows there are, then each square."""

import unittest

from support import bag_of, begin, board, challenge, draw, last, pass_turn, play, run, start, swap, word

GAME = start("CATDOGE", "ABCDEFG")
CAT = play(2, 1, 0, "CAT")
EMPTY = ["....."] * 5


def shown(rows):
    """The answer for a board told row by row: a capital is a letter, a small one a blank, a dot an empty square."""
    found = [len(rows)]
    for sign in "".join(rows):
        place = ord(sign.upper()) - ord("A") + 1
        found.append(0 if sign == "." else place if sign.isupper() else -place)
    return found


class Board(unittest.TestCase):
    def shows(self, calls, *rows):
        self.assertEqual(last(calls, board()), shown(rows))

    def test_without_a_game(self):
        self.assertEqual(last(board()), [0])
        self.assertEqual(last(begin(rows=4), board()), [0])

    def test_empty_of_each_size(self):
        for rows in (3, 5, 7, 9, 11):
            self.assertEqual(last(begin(rows=rows), board()), [rows] + [0] * (rows * rows))

    def test_what_squares_count_is_not_told(self):
        self.assertEqual(last(begin(squares=[4] * 25), board()), [5] + [0] * 25)

    def test_while_nothing_is_laid(self):
        for calls in (GAME[:2], GAME, GAME + [swap("CAT")], GAME + [pass_turn()], GAME + [pass_turn()] * 6):
            self.shows(calls, *EMPTY)

    def test_to_the_right(self):
        self.shows(GAME + [CAT], ".....", ".....", ".CAT.", ".....", ".....")
        self.shows(GAME + [CAT, draw("XYZ")], ".....", ".....", ".CAT.", ".....", ".....")

    def test_down(self):
        self.shows(GAME + [play(0, 2, 1, "CAT")], "..C..", "..A..", "..T..", ".....", ".....")

    def test_over_taken_squares(self):
        calls = GAME + [CAT, draw("XYZ")]
        self.shows(calls + [play(2, 0, 0, "AB")], ".....", ".....", "ACATB", ".....", ".....")
        self.shows(calls + [play(0, 3, 1, "ABCD")], "...A.", "...B.", ".CAT.", "...C.", "...D.")

    def test_blanks_are_below_0(self):
        calls = start("C__DOGE", "ABCDEFZ") + [play(2, 1, 0, "Caz")]
        self.shows(calls, ".....", ".....", ".Caz.", ".....", ".....")
        calls += [draw("XYZ"), play(1, 3, 0, "Z"), draw("H")]
        self.shows(calls, ".....", "...Z.", ".Caz.", ".....", ".....")

    def test_the_ends_of_the_letters(self):
        calls = start("AZ__BCD", "ABCDEFG") + [play(2, 1, 0, "AZaz")]
        self.assertEqual(last(calls, board()), [5] + [0] * 11 + [1, 26, -1, -26] + [0] * 10)

    def test_the_corners(self):
        calls = start("CATDOGE", "ABCDEFG", rows=3)
        calls += [play(1, 0, 0, "CAT"), draw("XYZ"), play(0, 0, 0, "ABC"), draw("HIJ"), play(2, 0, 0, "DOG")]
        self.shows(calls, "ABC", "CAT", "DOG")

    def test_a_play_that_falls_leaves_it_as_it_was(self):
        self.shows(GAME + [CAT, challenge(1)], *EMPTY)
        calls = start("C_TDOGE", "ABCDE_G") + [play(2, 1, 0, "CaT"), draw("XYZ")]
        self.shows(calls + [play(0, 3, 1, "AbCD")], "...A.", "...b.", ".CaT.", "...C.", "...D.")
        self.shows(calls + [play(0, 3, 1, "AbCD"), challenge(0)], ".....", ".....", ".CaT.", ".....", ".....")

    def test_a_play_that_is_challenged_in_vain_stands(self):
        self.shows(GAME + [CAT, word("CAT"), challenge(1)], ".....", ".....", ".CAT.", ".....", ".....")

    def test_a_refusal_leaves_it(self):
        refused = [play(0, 0, 0, "CAT"), play(2, 1, 0, "CAB"), play(2, 4, 0, "DO"), play(2, 2, 0, "C"), begin(rows=2)]
        self.shows(GAME + refused, *EMPTY)
        calls = GAME + [CAT, play(3, 1, 0, "DO"), swap("D"), draw("X")]
        self.shows(calls, ".....", ".....", ".CAT.", ".....", ".....")

    def test_when_it_is_over(self):
        self.shows(GAME + [CAT, draw("XYZ")] + [pass_turn()] * 6, ".....", ".....", ".CAT.", ".....", ".....")
        calls = start("CATDOGE", "ABCDEFG", bag=bag_of("CATDOGEABCDEFG"), rows=7)
        calls += [play(3, 0, 0, "CATDOGE"), draw([])]
        self.shows(calls, *["......."] * 3, "CATDOGE", *["......."] * 3)

    def test_a_new_begin_empties_it(self):
        self.shows(GAME + [CAT] + [begin()], *EMPTY)
        self.shows(GAME + [CAT] + [begin(rows=3)], "...", "...", "...")
        self.shows(GAME + [CAT, draw("XYZ")] + [pass_turn()] * 6 + [begin(rows=7)], *["......."] * 7)

    def test_asked_twice(self):
        told = run(GAME + [CAT, board(), board(), challenge(1), board()])
        self.assertEqual(told[4], told[5])
        self.assertEqual(told[7], shown(EMPTY))


if __name__ == "__main__":
    unittest.main()

"""What stands ahead of the points: turns without points, when it's over, and the points then."""

import unittest

from support import bag_of, challenge, draw, last, play, run, start, swap, word

GAME = start("CATDOGE", "ABCDEFG")
FIRST = "CATDOGE"  # worth 55
SECOND = "ABCDEFG"  # worth 28


def swaps(many):
    """So many swaps of a tile for its like, by two players who hold GAME's hands in turn."""
    found = []
    for turn in range(many):
        tile = "OF"[turn % 2]
        found += [swap(tile), draw(tile)]
    return found


class SixTurns(unittest.TestCase):
    def test_six_swaps(self):
        calls = GAME + swaps(6)
        self.assertEqual(run(calls)[-3], [0, 1, 1, 0, 66, 0, 0])
        self.assertEqual(run(calls)[-2], [1, 0, 1, 1, 66, 0, 0])
        self.assertEqual(run(calls)[-1], [0, 3, 0, 0, 66, -55, -28])

    def test_the_points_from_before_count(self):
        calls = GAME + [play(2, 1, 0, "CAT"), draw("CAT")] + swaps(7)[2:]
        self.assertEqual(last(calls), [0, 3, 0, 0, 63, 24 - 55, -28])

    def test_the_tiles_that_were_drawn_count(self):
        calls = GAME + swaps(5) + [swap("G"), draw("H")]
        self.assertEqual(last(calls), [0, 3, 0, 0, 66, -55, -29])

    def test_blanks_are_worth_nothing(self):
        calls = start("CATDOG_", "ABCDEF_") + swaps(6)
        self.assertEqual(last(calls), [0, 3, 0, 0, 66, -50, -21])

    def test_three_players(self):
        calls = start(FIRST, SECOND, "HIJKLMN")
        for tile in "CAHCAH":
            calls += [swap(tile), draw(tile)]
        self.assertEqual(run(calls)[-3], [0, 1, 2, 0, 59, 0, 0, 0])
        self.assertEqual(run(calls)[-1], [0, 3, 0, 0, 59, -55, -28, -77])

    def test_a_play_that_counts_ends_the_row(self):
        calls = GAME + swaps(5) + [play(2, 2, 0, "AB"), draw("AB")]
        self.assertEqual(last(calls), [0, 1, 0, 0, 64, 0, 3])
        self.assertEqual(last(calls, swaps(5)), [0, 1, 1, 0, 64, 0, 3])
        self.assertEqual(last(calls, swaps(6)), [0, 3, 0, 0, 64, -55, -25])

    def test_a_play_that_counts_one_ends_the_row(self):
        worths = [0, 1] + [0] * 25
        calls = start("CATDOGE", "ABCDEFG", worths=worths) + swaps(5) + [play(2, 2, 0, "AB"), draw("XY")]
        self.assertEqual(run(calls)[-2:], [[1, 2, 1, 2, 66, 0, 1], [0, 1, 0, 0, 64, 0, 1]])

    def test_plays_that_fall(self):
        calls = list(GAME)
        for turn in range(3):
            calls += [play(2, 1, 0, "CAT"), challenge(1), play(2, 1, 0, "AB"), challenge(0)]
        self.assertEqual(run(calls)[-2], [3, 2, 1, 2, 66, 0, 3])
        self.assertEqual(run(calls)[-1], [1, 3, 0, 0, 66, -55, -28])

    def test_a_play_that_falls_does_not_end_the_row(self):
        calls = GAME + swaps(5) + [play(2, 1, 0, "AB"), challenge(0)]
        self.assertEqual(last(calls), [1, 3, 0, 0, 66, -55, -28])

    def test_the_row_goes_on_till_the_draw_behind_a_play(self):
        calls = GAME + swaps(4) + [play(2, 1, 0, "CAT"), challenge(1), swap("A"), draw("A")]
        self.assertEqual(last(calls), [0, 3, 0, 0, 66, -55, -28])

    def test_a_play_that_counts_nothing(self):
        calls = start("__TDOGE", "ABCDEFG")
        for turn in range(2):
            calls += [swap("T"), draw("T"), swap("A"), draw("A")]
        nothing = calls + [play(2, 1, 0, "ca")]
        self.assertEqual(last(nothing), [0, 2, 0, 2, 66, 0, 0])
        nothing += [draw("XY")]
        self.assertEqual(last(nothing), [0, 1, 1, 0, 64, 0, 0])
        self.assertEqual(last(nothing, swap("A"), draw("A")), [0, 3, 0, 0, 64, -53, -28])

    def test_a_play_that_counts_nothing_is_the_sixth_behind_its_draw(self):
        worths = [0] * 27
        worths[1] = 3
        calls = start("CATDOGE", "ABCDEFG", worths=worths) + swaps(5)
        calls += [play(2, 1, 0, "BC")]
        self.assertEqual(last(calls), [0, 2, 1, 2, 66, 0, 0])
        self.assertEqual(last(calls, draw("XY")), [0, 3, 0, 0, 64, -3, -3])
        self.assertEqual(last(calls, challenge(0)), [1, 3, 0, 0, 66, -3, -3])

    def test_a_play_that_counts_nothing_and_falls_is_one_turn(self):
        calls = start("__TDOGE", "ABCDEFG") + [swap("T"), draw("T"), swap("A"), draw("A")] * 2
        calls += [play(2, 1, 0, "ca"), challenge(1)]
        self.assertEqual(last(calls), [1, 1, 1, 0, 66, 0, 0])

    def test_nothing_but_begin_and_word_goes_on(self):
        calls = GAME + swaps(6)
        refused = [draw([]), draw("A"), play(2, 2, 0, "AB"), challenge(0), challenge(1), swap("A")]
        self.assertEqual(run(calls + refused)[-6:], [[-3]] * 6)
        self.assertEqual(last(calls, word("AB")), [1])
        self.assertEqual(last(calls, GAME), [0, 1, 0, 0, 66, 0, 0])


class PassedOver(unittest.TestCase):
    def test_a_turn_passed_over_is_one_without_points(self):
        # CAT counts; player 1 is passed over: 1; five swaps more.
        calls = GAME + [word("CAT"), play(2, 1, 0, "CAT"), challenge(1), draw("CAT")]
        self.assertEqual(last(calls, swaps(4)), [0, 1, 0, 0, 63, 24, 0])
        self.assertEqual(last(calls, swaps(5)), [0, 3, 0, 0, 63, 24 - 55, -28])

    def test_the_sixth_may_be_a_turn_passed_over(self):
        # A play that counts nothing stands behind four swaps, so it's the fifth; the turn lost by its challenge is
        # the sixth.
        calls = start("__TDOGE", "ABCDEFG") + [word("AA")]
        calls += [swap("T"), draw("T"), swap("A"), draw("A")] * 2
        calls += [play(2, 1, 0, "aa"), challenge(1)]
        self.assertEqual(last(calls), [0, 2, 0, 2, 66, 0, 0])
        self.assertEqual(last(calls, draw("XY")), [0, 3, 0, 0, 64, -53, -28])

    def test_the_second_of_two_passed_over_is_not_reached(self):
        calls = start("__TDOGE", "ABCDEFG", "HIJKLMN") + [word("AA")]
        calls += [swap("T"), draw("T"), swap("A"), draw("A"), swap("H"), draw("H")]
        both = calls + [play(2, 1, 0, "aa"), challenge(1), challenge(2), draw("XY")]
        self.assertEqual(last(both), [0, 3, 0, 0, 57, -53, -28, -77])
        one = calls + [play(2, 1, 0, "aa"), challenge(2), draw("XY")]
        self.assertEqual(last(one), [0, 1, 1, 0, 57, 0, 0, 0])
        self.assertEqual(last(one, swap("A"), draw("A")), [0, 3, 0, 0, 57, -53, -28, -77])

    def test_two_turns_passed_over_are_two(self):
        calls = start(FIRST, SECOND, "HIJKLMN")
        calls += [word("CAT"), play(2, 1, 0, "CAT"), challenge(2), challenge(1), draw("CAT")]
        calls += [swap("O"), draw("O"), swap("F"), draw("F"), swap("H"), draw("H")]
        self.assertEqual(last(calls), [0, 1, 0, 0, 56, 24, 0, 0])
        self.assertEqual(last(calls, swap("O"), draw("O")), [0, 3, 0, 0, 56, 24 - 55, -28, -77])

    def test_nobody_is_passed_over_when_the_turn_itself_ends_it(self):
        bag = bag_of(FIRST + SECOND)
        calls = start(FIRST, SECOND, bag=bag, rows=9) + [word(FIRST), play(4, 1, 0, FIRST), challenge(1)]
        self.assertEqual(last(calls), [0, 2, 0, 0, 0, 105, 0])
        self.assertEqual(last(calls, draw([])), [0, 3, 0, 0, 0, 105 + 28, -28])


class EmptyBag(unittest.TestCase):
    bag = bag_of(FIRST + SECOND)

    def test_an_empty_hand_ends_it_behind_the_draw(self):
        calls = start(FIRST, SECOND, bag=self.bag, rows=9) + [play(4, 1, 0, FIRST)]
        self.assertEqual(last(calls), [105, 2, 0, 0, 0, 105, 0])
        self.assertEqual(last(calls, draw([])), [0, 3, 0, 0, 0, 133, -28])

    def test_it_may_be_challenged_till_then(self):
        calls = start(FIRST, SECOND, bag=self.bag, rows=9) + [play(4, 1, 0, FIRST), challenge(1)]
        self.assertEqual(last(calls), [1, 1, 1, 0, 0, 0, 0])
        calls += [play(4, 2, 0, SECOND), draw([])]
        self.assertEqual(last(calls), [0, 3, 0, 0, 0, -55, 78 + 55])

    def test_not_while_the_bag_has_tiles(self):
        calls = start(FIRST, SECOND, bag=bag_of(FIRST + SECOND + "Z"), rows=9) + [play(4, 1, 0, FIRST)]
        self.assertEqual(last(calls), [105, 2, 0, 1, 1, 105, 0])
        self.assertEqual(last(calls, draw("Z")), [0, 1, 1, 0, 0, 105, 0])

    def test_not_while_all_have_tiles(self):
        calls = start(FIRST, SECOND, bag=self.bag, rows=9) + [play(4, 1, 0, "CATDOG"), draw([])]
        self.assertEqual(last(calls), [0, 1, 1, 0, 0, 50, 0])
        calls += [play(5, 1, 0, "A"), draw([]), play(5, 2, 0, "E")]
        self.assertEqual(last(calls), [(1 + 5) + (1 + 5), 2, 0, 0, 0, 62, 4])
        self.assertEqual(last(calls, draw([])), [0, 3, 0, 0, 0, 62 + 27, 4 - 27])

    def test_who_has_none_gets_what_all_others_have(self):
        bag = bag_of(FIRST + SECOND + "HIJKLMN" + "_BCDEFG")
        calls = start(FIRST, SECOND, "HIJKLMN", "_BCDEFG", bag=bag, rows=9) + [play(4, 1, 0, FIRST), draw([])]
        self.assertEqual(last(calls), [0, 3, 0, 0, 0, 105 + 28 + 77 + 27, -28, -77, -27])

    def test_a_later_player_may_end_it(self):
        bag = bag_of(FIRST + SECOND)
        calls = start(FIRST, SECOND, bag=bag, rows=9)
        calls += [play(4, 3, 0, "CAT"), draw([]), play(5, 0, 0, SECOND)]
        # C, A and T stand above D, E and F.
        worth = 28 + 50 + (3 + 4) + (1 + 5) + (20 + 6)
        self.assertEqual(last(calls), [worth, 2, 1, 0, 0, 24, worth])
        self.assertEqual(last(calls, draw([])), [0, 3, 0, 0, 0, 24 - 31, worth + 31])

    def test_the_sixth_turn_without_points_may_empty_a_hand_too(self):
        # All is worth nothing but the H that player 0 is left with.
        worths = [0] * 27
        worths[8] = 9
        calls = start("HBC____", "AA_____", worths=worths, bag=bag_of("HBC____" + "AA_____"), rows=11)
        calls += [play(5, 5, 0, "BC"), draw([]), play(4, 5, 0, "AA"), draw([])]
        calls += [play(3, 5, 0, "b"), draw([]), play(3, 6, 0, "aa"), draw([])]
        calls += [play(2, 5, 0, "b"), draw([]), play(2, 6, 0, "aaa")]
        self.assertEqual(run(calls)[-2:], [[0, 1, 1, 0, 0, 0, 0], [0, 2, 1, 0, 0, 0, 0]])
        self.assertEqual(last(calls, draw([])), [0, 3, 0, 0, 0, -9, 9])

    def test_a_swap_of_the_whole_hand_does_not_end_it(self):
        calls = start(FIRST, SECOND, bag=bag_of(FIRST + SECOND + "PQRSUVW"))
        calls += [swap(FIRST), draw("PQRSUVW")]
        self.assertEqual(last(calls), [0, 1, 1, 0, 7, 0, 0])


if __name__ == "__main__":
    unittest.main()

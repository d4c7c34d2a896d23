"""Point 3: pass, as a turn and as one without points."""

import unittest

from support import (
    bag_of, begin, board, challenge, draw, hand, last, now, numbers, pass_turn, play, run, start, swap, word,
)

FIRST = "CATDOGE"  # worth 55
SECOND = "ABCDEFG"  # worth 28
THIRD = "HIJKLMN"  # worth 77
GAME = start(FIRST, SECOND)
THREE = start(FIRST, SECOND, THIRD)
CAT = play(2, 1, 0, "CAT")
PASS = pass_turn()


class Refusals(unittest.TestCase):
    def test_without_a_game(self):
        self.assertEqual(last(PASS), [-3])
        self.assertEqual(last(begin(rows=4), PASS), [-3])

    def test_while_tiles_are_to_be_drawn(self):
        self.assertEqual(last(GAME[:1], PASS), [-3])
        self.assertEqual(last(GAME[:2], PASS), [-3])
        self.assertEqual(last(GAME, swap("CAT"), PASS), [-3])

    def test_while_a_play_may_be_challenged(self):
        self.assertEqual(last(GAME, CAT, PASS), [-3])
        self.assertEqual(last(GAME, CAT, word("CAT"), challenge(1), PASS), [-3])

    def test_when_it_is_over(self):
        self.assertEqual(last(GAME, [PASS] * 7), [-3])
        calls = start(FIRST, SECOND, bag=bag_of(FIRST + SECOND), rows=9) + [play(4, 1, 0, FIRST)]
        self.assertEqual(last(calls, PASS), [-3])
        self.assertEqual(last(calls, draw([]), PASS), [-3])

    def test_a_refused_pass_is_no_turn(self):
        calls = [begin(), PASS, draw(FIRST), PASS, draw(SECOND), swap("C"), PASS, draw("C")]
        self.assertEqual(last(calls), [0, 1, 1, 0, 66, 0, 0])
        calls += [PASS] * 4
        self.assertEqual(last(calls), [0, 1, 1, 0, 66, 0, 0])
        self.assertEqual(last(calls, PASS), [0, 3, 0, 0, 66, -55, -28])
        self.assertEqual(run(calls + [PASS] * 3 + [now()])[-3:], [[-3], [-3], [3, 3, 0, 0, 66, -55, -28]])

    def test_a_refused_pass_leaves_a_play_open(self):
        calls = GAME + [CAT, PASS]
        self.assertEqual(last(calls, challenge(1)), [1, 1, 1, 0, 66, 0, 0])
        self.assertEqual(last(calls, draw("XYZ")), [0, 1, 1, 0, 63, 24, 0])


class Turns(unittest.TestCase):
    def test_the_next_player_s_turn(self):
        self.assertEqual(run(GAME + [PASS] * 3)[3:], [
            [0, 1, 1, 0, 66, 0, 0], [0, 1, 0, 0, 66, 0, 0], [0, 1, 1, 0, 66, 0, 0],
        ])

    def test_round_the_table(self):
        self.assertEqual([told[2] for told in run(THREE + [PASS] * 5)[4:]], [1, 2, 0, 1, 2])
        four = start(FIRST, SECOND, THIRD, THIRD)
        self.assertEqual([told[2] for told in run(four + [PASS] * 5)[5:]], [1, 2, 3, 0, 1])

    def test_it_is_nothing(self):
        calls = GAME + [CAT, draw("XYZ"), PASS]
        told = run(calls[:-1] + [board(), hand(0), hand(1), PASS, board(), hand(0), hand(1)])
        self.assertEqual(told[-3:], told[-7:-4])
        self.assertEqual(last(calls), [0, 1, 0, 0, 63, 24, 0])

    def test_the_hand_is_played_from_next_time(self):
        calls = GAME + [PASS, PASS, CAT]
        self.assertEqual(last(calls), [24, 2, 0, 3, 66, 24, 0])
        self.assertEqual(last(GAME, PASS, CAT), [-4])

    def test_with_too_few_in_the_bag_for_a_swap(self):
        calls = start(FIRST, SECOND, bag=bag_of(FIRST + SECOND + "XYZ"))
        self.assertEqual(last(calls, swap("C")), [-5])
        self.assertEqual(last(calls, PASS), [0, 1, 1, 0, 3, 0, 0])

    def test_an_empty_bag_alone_ends_nothing(self):
        calls = start(FIRST, SECOND, bag=bag_of(FIRST + SECOND))
        self.assertEqual(last(calls, [PASS] * 5), [0, 1, 1, 0, 0, 0, 0])
        self.assertEqual(last(calls, [PASS] * 6), [0, 3, 0, 0, 0, -55, -28])


class SixTurns(unittest.TestCase):
    def test_six_passes(self):
        self.assertEqual(last(GAME, [PASS] * 5), [0, 1, 1, 0, 66, 0, 0])
        self.assertEqual(last(GAME, [PASS] * 6), [0, 3, 0, 0, 66, -55, -28])

    def test_six_whatever_the_number_of_players(self):
        self.assertEqual(last(THREE, [PASS] * 5), [0, 1, 2, 0, 59, 0, 0, 0])
        self.assertEqual(last(THREE, [PASS] * 6), [0, 3, 0, 0, 59, -55, -28, -77])
        four = start(FIRST, SECOND, THIRD, THIRD)
        self.assertEqual(last(four, [PASS] * 5), [0, 1, 1, 0, 52, 0, 0, 0, 0])
        self.assertEqual(last(four, [PASS] * 6), [0, 3, 0, 0, 52, -55, -28, -77, -77])

    def test_the_points_from_before_and_the_hands_of_now_count(self):
        calls = GAME + [CAT, draw("XY_")]
        # D, O, G and E are left of the first hand; X and Y are worth 1, the blank nothing.
        self.assertEqual(last(calls, [PASS] * 6), [0, 3, 0, 0, 63, 24 - 33, -28])

    def test_a_play_that_counts_ends_the_row(self):
        calls = GAME + [PASS] * 4 + [CAT, draw("CAT")]
        self.assertEqual(last(calls, [PASS] * 5), [0, 1, 0, 0, 63, 24, 0])
        self.assertEqual(last(calls, [PASS] * 6), [0, 3, 0, 0, 63, 24 - 55, -28])

    def test_it_may_end_the_row_at_five(self):
        calls = GAME + [PASS] * 5 + [play(2, 2, 0, "AB"), draw("AB")]
        self.assertEqual(last(calls), [0, 1, 0, 0, 64, 0, 3])
        self.assertEqual(last(calls, [PASS] * 5), [0, 1, 1, 0, 64, 0, 3])

    def test_among_swaps(self):
        calls = GAME + [PASS, swap("A"), draw("A"), PASS, swap("B"), draw("B"), swap("C"), draw("C")]
        self.assertEqual(last(calls), [0, 1, 1, 0, 66, 0, 0])
        self.assertEqual(last(calls, PASS), [0, 3, 0, 0, 66, -55, -28])
        self.assertEqual(last(calls, swap("D"), draw("H")), [0, 3, 0, 0, 66, -55, -32])

    def test_among_plays_that_fall(self):
        calls = GAME + [PASS, play(2, 1, 0, "AB"), challenge(0), CAT, challenge(1), PASS, PASS]
        self.assertEqual(last(calls), [0, 1, 1, 0, 66, 0, 0])
        self.assertEqual(last(calls, PASS), [0, 3, 0, 0, 66, -55, -28])
        self.assertEqual(last(calls, play(2, 1, 0, "AB"), challenge(0)), [1, 3, 0, 0, 66, -55, -28])

    def test_among_plays_that_count_nothing(self):
        calls = start("__TDOGE", SECOND) + [play(2, 1, 0, "ca"), draw("XY")] + [PASS] * 4
        self.assertEqual(last(calls), [0, 1, 1, 0, 64, 0, 0])
        self.assertEqual(last(calls, PASS), [0, 3, 0, 0, 64, -53, -28])

    def test_all_kinds_in_one_row(self):
        calls = start("__TDOGE", SECOND, THIRD) + [word("AA"), swap("T"), draw("T"), PASS, play(2, 1, 0, "HI")]
        calls += [challenge(0), play(2, 1, 0, "aa"), challenge(1), draw("XY")]
        # A swap, a pass, a play that fell, one that counted nothing, a turn passed over; it's player 2's.
        self.assertEqual(last(calls), [0, 1, 2, 0, 57, 0, 0, 0])
        self.assertEqual(last(calls, PASS), [0, 3, 0, 0, 57, -53, -28, -77])


class PassedOver(unittest.TestCase):
    def test_behind_a_pass(self):
        calls = THREE + [word("CAT"), CAT, challenge(2), draw("XYZ"), PASS]
        self.assertEqual(last(calls), [0, 1, 0, 0, 56, 24, 0, 0])
        self.assertEqual(run(calls + [PASS, PASS])[-2:], [[0, 1, 1, 0, 56, 24, 0, 0], [0, 1, 2, 0, 56, 24, 0, 0]])

    def test_the_turn_passed_over_is_one_of_the_row(self):
        calls = THREE + [word("CAT"), CAT, challenge(2), draw("CAT"), PASS]
        self.assertEqual(last(calls, [PASS] * 3), [0, 1, 0, 0, 56, 24, 0, 0])
        self.assertEqual(last(calls, [PASS] * 4), [0, 3, 0, 0, 56, 24 - 55, -28, -77])

    def test_two_behind_one_pass(self):
        four = start(FIRST, SECOND, THIRD, THIRD) + [word("CAT"), CAT, challenge(3), challenge(2), draw("CAT"), PASS]
        self.assertEqual(last(four), [0, 1, 0, 0, 49, 24, 0, 0, 0])
        self.assertEqual(last(four, [PASS] * 2), [0, 1, 2, 0, 49, 24, 0, 0, 0])
        self.assertEqual(last(four, [PASS] * 3), [0, 3, 0, 0, 49, 24 - 55, -28, -77, -77])

    def test_it_may_be_over_by_that(self):
        calls = start("__TDOGE", SECOND, THIRD) + [word("AA")] + [PASS] * 3
        calls += [play(2, 1, 0, "aa"), challenge(2), draw("XY")]
        self.assertEqual(last(calls), [0, 1, 1, 0, 57, 0, 0, 0])
        # The pass is the fifth, the turn that player 2 has lost the sixth.
        told = run(calls + [hand(2), PASS, now(), hand(2)])
        self.assertEqual(told[-4], [7, 1] + numbers(THIRD))
        self.assertEqual(told[-3], [0, 3, 0, 0, 57, -53, -28, -77])
        self.assertEqual(told[-2], [3, 3, 0, 0, 57, -53, -28, -77])
        self.assertEqual(told[-1], [7, 0] + numbers(THIRD))

    def test_nobody_is_passed_over_when_the_pass_is_the_sixth(self):
        calls = start(FIRST, "__CDEFG", THIRD) + [word("AA")] + [PASS] * 4
        calls += [play(2, 1, 0, "aa"), challenge(0), draw("XY")]
        self.assertEqual(last(calls), [0, 1, 2, 0, 57, 0, 0, 0])
        told = run(calls + [PASS, hand(0)])
        self.assertEqual(told[-2:], [[0, 3, 0, 0, 57, -55, -27, -77], [7, 1] + numbers(FIRST)])


if __name__ == "__main__":
    unittest.main()

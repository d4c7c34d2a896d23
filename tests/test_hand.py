"""Point 3: hand, the tiles in the order in which they came and the turns that will be lost."""

import unittest

from support import (
    HIGH, LOW, bag_of, begin, challenge, draw, hand, hand_now, last, numbers, pass_turn, play, run, start, swap, word,
)

GAME = start("CATDOGE", "ABCDEFG")
THREE = start("CATDOGE", "ABCDEFG", "HIJKLMN")
CAT = play(2, 1, 0, "CAT")
FAILED = [word("CAT"), CAT, challenge(1)]


def holds(tiles, lost=0):
    return [len(tiles), lost] + numbers(tiles)


class Refusals(unittest.TestCase):
    def test_without_a_game_there_is_no_player(self):
        for player in (LOW, -1, 0, 1, HIGH):
            self.assertEqual(last(hand(player)), [-1])
            self.assertEqual(last(begin(players=5), hand(player)), [-1])

    def test_no_such_player(self):
        for player in (LOW, -2, -1, 2, 3, HIGH):
            for calls in (GAME[:1], GAME, GAME + [CAT], GAME + [pass_turn()] * 6):
                self.assertEqual(last(calls, hand(player)), [-1])

    def test_as_many_as_play(self):
        for players in (2, 3, 4):
            for player in range(players):
                self.assertEqual(last(begin(players=players), hand(player)), [0, 0])
            self.assertEqual(last(begin(players=players), hand(players)), [-1])

    def test_an_earlier_game_s_player(self):
        self.assertEqual(last(THREE, hand(2)), holds("HIJKLMN"))
        self.assertEqual(last(THREE, begin(), hand(2)), [-1])
        self.assertEqual(last(THREE, begin(players=1), hand(2)), holds("HIJKLMN"))


class Order(unittest.TestCase):
    def hands(self, calls, *expected):
        for player, tiles in enumerate(expected):
            self.assertEqual(last(calls, hand(player)), holds(tiles))

    def test_while_the_first_tiles_are_drawn(self):
        self.hands(GAME[:1], "", "")
        self.hands(GAME[:2], "CATDOGE", "")
        self.hands(GAME, "CATDOGE", "ABCDEFG")

    def test_blanks_are_0(self):
        self.hands(start("C_TDO_E", "ABCDEFG"), "C_TDO_E", "ABCDEFG")

    def test_what_is_laid_is_gone_at_once_and_what_is_drawn_comes_behind(self):
        self.hands(GAME + [CAT], "DOGE", "ABCDEFG")
        self.hands(GAME + [CAT, draw("ZXY")], "DOGEZXY", "ABCDEFG")
        self.hands(GAME + [play(2, 1, 0, "TO"), draw("CA")], "CADGECA", "ABCDEFG")

    def test_what_is_laid_is_taken_where_it_comes_first(self):
        calls = start("ABAB_A_", "CDEFGHI")
        self.hands(calls + [play(2, 1, 0, "AB")], "AB_A_", "CDEFGHI")
        self.hands(calls + [play(2, 1, 0, "AzB")], "ABA_", "CDEFGHI")
        self.hands(calls + [play(2, 1, 0, "AzB"), draw("XYZ")], "ABA_XYZ", "CDEFGHI")
        self.hands(calls + [play(2, 1, 0, "za")], "ABABA", "CDEFGHI")

    def test_a_blank_laid_as_a_letter_leaves_that_letter(self):
        self.hands(start("CA_DOGE", "ABCDEFG") + [play(2, 1, 0, "aD")], "CAOGE", "ABCDEFG")

    def test_a_swap(self):
        calls = start("ABAB_A_", "CDEFGHI") + [swap("_A")]
        self.hands(calls, "BABA_", "CDEFGHI")
        self.hands(calls + [draw("XY")], "BABA_XY", "CDEFGHI")
        self.hands(calls + [draw("YX")], "BABA_YX", "CDEFGHI")

    def test_a_swap_of_all(self):
        calls = GAME + [swap("EGODTAC")]
        self.hands(calls, "", "ABCDEFG")
        self.hands(calls + [draw("HIJKLMN")], "HIJKLMN", "ABCDEFG")

    def test_a_tile_swapped_for_its_like_comes_behind(self):
        self.hands(GAME + [swap("CT"), draw("TC")], "ADOGETC", "ABCDEFG")

    def test_what_falls_is_behind_the_others_as_it_was_laid(self):
        calls = start("CA_DOGE", "ABCDEFG") + [play(2, 1, 0, "DtCG")]
        self.hands(calls, "AOE", "ABCDEFG")
        self.hands(calls + [challenge(1)], "AOED_CG", "ABCDEFG")

    def test_what_falls_over_taken_squares_is_in_the_order_of_the_play(self):
        calls = GAME + [CAT, draw("XYZ"), play(2, 0, 0, "FA"), challenge(0)]
        self.hands(calls, "DOGEXYZ", "BCDEGFA")
        calls = GAME + [CAT, draw("XYZ"), play(0, 2, 1, "GAD"), challenge(0)]
        self.hands(calls, "DOGEXYZ", "BCEFGAD")

    def test_a_play_that_falls_twice(self):
        calls = GAME + [CAT, challenge(1), pass_turn(), play(2, 2, 0, "EC"), challenge(1)]
        self.hands(calls, "DOGATEC", "ABCDEFG")

    def test_a_play_that_is_challenged_in_vain(self):
        self.assertEqual(last(GAME, FAILED, hand(0)), holds("DOGE"))

    def test_a_pass_leaves_it(self):
        self.hands(GAME + [pass_turn()], "CATDOGE", "ABCDEFG")

    def test_a_refusal_leaves_it(self):
        refused = [draw("X"), play(0, 0, 0, "CAT"), play(2, 1, 0, "CAB"), challenge(1), swap("CATZ"), begin(rows=2)]
        self.hands(GAME + refused, "CATDOGE", "ABCDEFG")

    def test_fewer_when_the_bag_is_empty(self):
        calls = start("CATDOGE", "ABCDEFG", bag=bag_of("CATDOGEABCDEFGX"), rows=9)
        calls += [play(4, 3, 0, "CAT"), draw("X"), play(5, 3, 0, "BD"), draw([])]
        self.hands(calls, "DOGEX", "ACEFG")

    def test_when_it_is_over(self):
        self.hands(GAME + [CAT, draw("XYZ")] + [pass_turn()] * 6, "DOGEXYZ", "ABCDEFG")
        calls = start("CATDOGE", "ABCDEFG", bag=bag_of("CATDOGEABCDEFG"), rows=9)
        self.hands(calls + [play(4, 1, 0, "CATDOGE"), draw([])], "", "ABCDEFG")

    def test_it_is_what_may_be_played(self):
        for calls in (GAME, GAME + [CAT, draw("XYZ"), pass_turn()], GAME + [CAT, challenge(1), pass_turn()]):
            self.assertEqual(sorted(last(calls, hand(0))[2:]), hand_now(calls))

    def test_whosever_turn_it_is(self):
        calls = THREE + [pass_turn(), play(2, 1, 0, "BAD")]
        self.hands(calls, "CATDOGE", "CEFG", "HIJKLMN")
        self.hands(calls + [challenge(0)], "CATDOGE", "CEFGBAD", "HIJKLMN")

    def test_a_new_game_has_empty_hands(self):
        for before in (GAME, GAME + [CAT], GAME + [swap("C")], GAME + FAILED):
            self.hands(before + [begin()], "", "")


class LostTurns(unittest.TestCase):
    def lost(self, *calls):
        """Of each player of the game that the first calls begin, whether they have lost a turn behind all of them."""
        players = len(calls[0]) - 1
        return [last(*calls, hand(player))[1] for player in range(players)]

    def test_till_the_turn_is_passed_over(self):
        self.assertEqual(self.lost(GAME), [0, 0])
        self.assertEqual(self.lost(GAME, FAILED), [0, 1])
        self.assertEqual(self.lost(GAME, FAILED, challenge(1)), [0, 1])
        self.assertEqual(self.lost(GAME, FAILED, draw("XYZ")), [0, 0])

    def test_a_turn_that_is_not_yet_theirs(self):
        calls = [word("CAT"), CAT, challenge(2), draw("XYZ")]
        self.assertEqual(self.lost(THREE, calls), [0, 0, 1])
        self.assertEqual(self.lost(THREE, calls, swap("A")), [0, 0, 1])
        self.assertEqual(self.lost(THREE, calls, swap("A"), draw("A")), [0, 0, 0])
        self.assertEqual(self.lost(THREE, calls, pass_turn()), [0, 0, 0])

    def test_several_players(self):
        calls = [word("CAT"), CAT, challenge(2), challenge(1)]
        self.assertEqual(self.lost(THREE, calls), [0, 1, 1])
        self.assertEqual(self.lost(THREE, calls, draw("XYZ")), [0, 0, 0])

    def test_the_first_is_passed_over_and_the_last_waits(self):
        four = start("CATDOGE", "ABCDEFG", "HIJKLMN", "HIJKLMN")
        calls = [word("CAT"), CAT, challenge(3), challenge(1), draw("XYZ")]
        self.assertEqual(last(four, calls), [0, 1, 2, 0, 49, 24, 0, 0, 0])
        self.assertEqual(self.lost(four, calls), [0, 0, 0, 1])

    def test_a_challenge_that_fells_the_play_loses_none(self):
        self.assertEqual(self.lost(GAME, CAT, challenge(1)), [0, 0])

    def test_a_challenge_that_is_refused_loses_none(self):
        self.assertEqual(self.lost(GAME, word("CAT"), CAT, challenge(0)), [0, 0])
        self.assertEqual(self.lost(GAME, word("CAT"), CAT, draw("XYZ"), challenge(0)), [0, 0])

    def test_lost_again_behind_another_play(self):
        calls = [FAILED, draw("XYZ"), play(2, 4, 0, "D"), word("CATD")]
        self.assertEqual(self.lost(GAME, *calls), [0, 0])
        self.assertEqual(self.lost(GAME, *calls, challenge(1)), [0, 1])

    def test_passed_over_behind_a_play_that_falls(self):
        calls = [word("CAT"), CAT, challenge(2), draw("XYZ"), play(2, 4, 0, "B")]
        self.assertEqual(self.lost(THREE, calls), [0, 0, 1])
        self.assertEqual(last(THREE, calls, challenge(0)), [1, 1, 0, 0, 56, 24, 0, 0])
        self.assertEqual(self.lost(THREE, calls, challenge(0)), [0, 0, 0])

    def test_it_stays_lost_when_another_play_falls(self):
        four = start("CATDOGE", "ABCDEFG", "HIJKLMN", "HIJKLMN")
        calls = [word("CAT"), CAT, challenge(3), draw("XYZ"), play(2, 4, 0, "B"), challenge(3)]
        self.assertEqual(last(four, calls), [1, 1, 2, 0, 49, 24, 0, 0, 0])
        self.assertEqual(self.lost(four, calls), [0, 0, 0, 1])

    def test_it_stays_lost_when_it_is_over_ahead_of_that_turn(self):
        calls = start("CATDOGE", "ABCDEFG", bag=bag_of("CATDOGEABCDEFG"), rows=9)
        more = [word("CATDOGE"), play(4, 1, 0, "CATDOGE"), challenge(1), draw([])]
        self.assertEqual(last(calls, more)[1], 3)
        self.assertEqual(last(calls, more, hand(1)), holds("ABCDEFG", 1))

    def test_a_new_game_forgets_it(self):
        self.assertEqual(self.lost(GAME, FAILED, begin()), [0, 0])
        self.assertEqual(self.lost(GAME, FAILED, begin(rows=2)), [0, 1])


class Looking(unittest.TestCase):
    def test_asked_twice(self):
        told = run(GAME + [CAT, hand(0), hand(0), hand(1), draw("XYZ"), hand(0)])
        self.assertEqual(told[4], told[5])
        self.assertEqual(told[7:], [[0, 1, 1, 0, 63, 24, 0], holds("DOGEXYZ")])


if __name__ == "__main__":
    unittest.main()

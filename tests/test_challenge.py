"""Point 3: challenge, and the turns that are lost by it."""

import unittest

from support import HIGH, LOW, bag_of, begin, challenge, draw, hand_now, last, numbers, play, run, start, swap, word

GAME = start("CATDOGE", "ABCDEFG")
CAT = play(2, 1, 0, "CAT")
THREE = start("CATDOGE", "ABCDEFG", "HIJKLMN")


class Refusals(unittest.TestCase):
    def test_without_a_game_there_is_no_player(self):
        for player in (LOW, -1, 0, 1, HIGH):
            self.assertEqual(last(challenge(player)), [-1])

    def test_no_such_player(self):
        for player in (LOW, -1, 2, 3, HIGH):
            self.assertEqual(last(GAME, CAT, challenge(player)), [-1])
        self.assertEqual(last(THREE, CAT, challenge(2))[0], 1)
        self.assertEqual(last(THREE, CAT, challenge(3)), [-1])

    def test_phases_in_which_nothing_is_to_be_challenged(self):
        for calls in (GAME[:1], GAME[:2], GAME, GAME + [swap("CAT")], GAME + [CAT, draw("XYZ")]):
            self.assertEqual(last(calls, challenge(0)), [-3])
            self.assertEqual(last(calls, challenge(1)), [-3])
        self.assertEqual(last(GAME, CAT, challenge(1), challenge(1)), [-3])

    def test_not_when_it_is_over(self):
        bag = bag_of("CATDOGE" + "ABCDEFG")
        calls = start("CATDOGE", "ABCDEFG", bag=bag, rows=9) + [play(4, 2, 0, "CATDOGE"), draw([])]
        self.assertEqual(last(calls, challenge(1)), [-3])
        self.assertEqual(last(calls, challenge(2)), [-1])

    def test_their_own_play(self):
        self.assertEqual(last(GAME, CAT, challenge(0)), [-4])
        calls = GAME + [CAT, draw("XYZ"), play(2, 4, 0, "B")]
        self.assertEqual(last(calls, challenge(1)), [-4])
        self.assertEqual(last(calls, challenge(0))[0], 1)

    def test_the_one_told_first(self):
        self.assertEqual(last(GAME, challenge(2)), [-1])
        self.assertEqual(last(GAME, challenge(0)), [-3])

    def test_nothing_changes_behind_a_refusal(self):
        calls = GAME + [CAT, challenge(0), challenge(2), challenge(-1)]
        self.assertEqual(last(calls, draw("XYZ")), [0, 1, 1, 0, 63, 24, 0])


class Falling(unittest.TestCase):
    def test_the_play_falls(self):
        calls = GAME + [CAT, challenge(1)]
        self.assertEqual(last(calls), [1, 1, 1, 0, 66, 0, 0])

    def test_its_tiles_are_back_in_hand(self):
        calls = start("C_TDOGE", "ABCDEFG") + [play(2, 1, 0, "CaT"), challenge(1), swap("A"), draw("H")]
        self.assertEqual(last(calls), [0, 1, 0, 0, 66, 0, 0])
        self.assertEqual(hand_now(calls), sorted(numbers("C_TDOGE")))

    def test_points_from_before_are_left(self):
        calls = GAME + [word("CAT"), CAT, draw("XYZ"), swap("A"), draw("H"), play(3, 1, 0, "DO")]
        self.assertEqual(last(calls), [42, 2, 0, 2, 63, 66, 0])
        self.assertEqual(last(calls, challenge(1)), [3, 1, 1, 0, 63, 24, 0])

    def test_tiles_from_before_are_left(self):
        calls = GAME + [CAT, draw("XYZ"), play(2, 0, 0, "AB"), challenge(0)]
        self.assertEqual(last(calls), [1, 1, 0, 0, 63, 24, 0])
        for column in (1, 2, 3):
            self.assertEqual(last(calls, play(2, column, 0, "D")), [-6])
        self.assertEqual(last(calls, play(2, 0, 0, "D"))[0], 28)
        self.assertEqual(last(calls, play(2, 4, 0, "D"))[0], 28)

    def test_any_word_that_is_not_in_the_list(self):
        # AB below CAT's C and A makes AB right, then CA and AB down.
        calls = GAME + [CAT, draw("XYZ"), play(3, 1, 0, "AB")]
        self.assertEqual(last(calls, challenge(0)), [2, 1, 0, 0, 63, 24, 0])
        self.assertEqual(last(calls, word("AB"), challenge(0)), [1, 1, 0, 0, 63, 24, 0])
        self.assertEqual(last(calls, word("CA"), challenge(0)), [1, 1, 0, 0, 63, 24, 0])
        self.assertEqual(last(calls, word("CA"), word("AB"), challenge(0)), [0, 2, 1, 2, 63, 24, 10])

    def test_words_that_the_play_has_no_part_in_are_not_asked(self):
        # CAT itself isn't in the list, but B only makes AB.
        calls = GAME + [CAT, draw("XYZ"), play(3, 2, 0, "B"), word("AB"), challenge(0)]
        self.assertEqual(last(calls)[0], 0)

    def test_the_whole_word_is_asked(self):
        calls = GAME + [word("CAT"), word("AT"), word("CA"), CAT, draw("XYZ"), play(2, 4, 0, "B"), challenge(0)]
        self.assertEqual(last(calls)[0], 1)
        calls = GAME + [word("CATB"), CAT, draw("XYZ"), play(2, 4, 1, "B"), challenge(0)]
        self.assertEqual(last(calls)[0], 0)

    def test_the_order_of_the_letters_is_asked(self):
        self.assertEqual(last(GAME, word("TAC"), CAT, challenge(1))[0], 1)
        self.assertEqual(last(GAME, word("TAC"), play(0, 2, 1, "CAT"), challenge(1))[0], 1)
        self.assertEqual(last(GAME, word("CAT"), play(0, 2, 1, "CAT"), challenge(1))[0], 0)

    def test_a_blank_is_the_letter_it_is_laid_as(self):
        calls = start("_ATDOGE", "ABCDEFG") + [word("CAT")]
        self.assertEqual(last(calls, play(2, 1, 0, "cAT"), challenge(1)), [0, 2, 0, 3, 66, 21, 0])
        self.assertEqual(last(calls, play(2, 1, 0, "bAT"), challenge(1)), [1, 1, 1, 0, 66, 0, 0])

    def test_a_word_that_comes_twice_is_one_also_with_a_blank(self):
        calls = start("CATDOGE", "A_CDEFG") + [CAT, draw("XYZ"), play(3, 1, 0, "Ab"), challenge(0)]
        self.assertEqual(last(calls)[0], 2)

    def test_another_play_may_follow_on_the_empty_board(self):
        calls = GAME + [CAT, challenge(1), play(2, 1, 0, "ABC"), draw("XYZ"), play(1, 1, 0, "T")]
        self.assertEqual(run(calls)[-2:], [[0, 1, 0, 0, 63, 0, 6], [21, 2, 0, 1, 63, 21, 6]])

    def test_each_player_behind_another(self):
        calls = THREE + [CAT, challenge(2)]
        self.assertEqual(last(calls), [1, 1, 1, 0, 59, 0, 0, 0])
        calls += [play(2, 1, 0, "AB"), challenge(0), play(2, 2, 0, "HI"), challenge(1)]
        self.assertEqual(run(calls)[-3], [1, 1, 2, 0, 59, 0, 0, 0])
        self.assertEqual(run(calls)[-1], [1, 1, 0, 0, 59, 0, 0, 0])

    def test_whoever_challenges_rightly_loses_no_turn(self):
        calls = GAME + [CAT, challenge(1), play(2, 1, 0, "AB"), draw("XY")]
        self.assertEqual(last(calls), [0, 1, 0, 0, 64, 0, 3])


class Failing(unittest.TestCase):
    def test_the_play_stands_and_is_to_be_drawn_for(self):
        calls = GAME + [word("CAT"), CAT, challenge(1)]
        self.assertEqual(last(calls), [0, 2, 0, 3, 66, 24, 0])

    def test_the_next_turn_is_lost_once(self):
        calls = GAME + [word("CAT"), CAT, challenge(1), draw("XYZ")]
        self.assertEqual(last(calls), [0, 1, 0, 0, 63, 24, 0])
        calls += [play(3, 1, 0, "D"), draw("I")]
        self.assertEqual(last(calls), [0, 1, 1, 0, 62, 31, 0])

    def test_several_challenges_lose_one_turn(self):
        calls = GAME + [word("CAT"), CAT, challenge(1), challenge(1), challenge(1), draw("XYZ")]
        self.assertEqual(run(calls)[-2:], [[0, 2, 0, 3, 66, 24, 0], [0, 1, 0, 0, 63, 24, 0]])
        calls += [swap("X"), draw("J")]
        self.assertEqual(last(calls), [0, 1, 1, 0, 63, 24, 0])

    def test_challenges_by_others(self):
        calls = THREE + [word("CAT"), CAT]
        first = calls + [challenge(1), draw("XYZ")]
        self.assertEqual(last(first), [0, 1, 2, 0, 56, 24, 0, 0])
        second = calls + [challenge(2), draw("XYZ")]
        self.assertEqual(last(second), [0, 1, 1, 0, 56, 24, 0, 0])
        both = calls + [challenge(2), challenge(1), draw("XYZ")]
        self.assertEqual(last(both), [0, 1, 0, 0, 56, 24, 0, 0])
        self.assertEqual(last(both, swap("X"), draw("A")), [0, 1, 1, 0, 56, 24, 0, 0])

    def test_a_lost_turn_waits_for_its_player(self):
        calls = THREE + [word("CAT"), CAT, challenge(2), draw("XYZ"), swap("A"), draw("O")]
        self.assertEqual(last(calls), [0, 1, 0, 0, 56, 24, 0, 0])

    def test_a_turn_lost_behind_two_plays_is_one(self):
        calls = THREE + [word("CAT"), word("CATB"), CAT, challenge(2), draw("XYZ")]
        calls += [play(2, 4, 0, "B"), challenge(2), draw("O")]
        self.assertEqual(last(calls), [0, 1, 0, 0, 55, 24, 26, 0])
        calls += [swap("X"), draw("P"), swap("A"), draw("P")]
        self.assertEqual(last(calls), [0, 1, 2, 0, 55, 24, 26, 0])

    def test_a_lost_turn_stays_lost_when_another_challenge_succeeds(self):
        calls = THREE + [word("CAT"), CAT, challenge(2), draw("XYZ"), play(2, 4, 0, "B"), challenge(2)]
        self.assertEqual(last(calls), [1, 1, 0, 0, 56, 24, 0, 0])

    def test_a_word_told_twice_is_in_the_list(self):
        self.assertEqual(last(GAME, word("CAT"), word("CAT"), CAT, challenge(1))[0], 0)

    def test_words_that_grow_between_a_play_and_its_challenge(self):
        calls = GAME + [CAT, word("CAT")]
        self.assertEqual(run(calls + [challenge(1)])[-2:], [[1], [0, 2, 0, 3, 66, 24, 0]])
        self.assertEqual(last(GAME, CAT, word("DOG"), challenge(1))[0], 1)

    def test_words_of_an_earlier_game_are_gone(self):
        self.assertEqual(last(begin(), word("CAT"), GAME, CAT, challenge(1))[0], 1)

    def test_a_draw_ends_the_time_for_challenges(self):
        self.assertEqual(last(GAME, CAT, draw("XYZ"), challenge(1)), [-3])
        self.assertEqual(last(GAME, CAT, draw("XY"), challenge(1))[0], 1)

    def test_a_lost_turn_is_forgotten_by_a_new_game(self):
        calls = GAME + [word("CAT"), CAT, challenge(1)] + GAME + [CAT, draw("XYZ")]
        self.assertEqual(last(calls), [0, 1, 1, 0, 63, 24, 0])


if __name__ == "__main__":
    unittest.main()

"""The call now: the phase, then how it stands."""

import unittest

from support import bag_of, begin, challenge, draw, last, now, pass_turn, play, run, start, swap, word

GAME = start("CATDOGE", "ABCDEFG")
CAT = play(2, 1, 0, "CAT")


class Now(unittest.TestCase):
    def test_without_a_game(self):
        self.assertEqual(last(now()), [3, 3, 0, 0, 0])
        self.assertEqual(last(begin(rows=4), now()), [3, 3, 0, 0, 0])
        self.assertEqual(last(begin(bag=[0] * 27), word("AB"), draw([]), now()), [3, 3, 0, 0, 0])

    def test_while_the_first_tiles_are_drawn(self):
        self.assertEqual(last(GAME[:1], now()), [0, 0, 0, 7, 80, 0, 0])
        self.assertEqual(last(GAME[:2], now()), [0, 0, 1, 7, 73, 0, 0])

    def test_when_a_play_is_due(self):
        self.assertEqual(last(GAME, now()), [1, 1, 0, 0, 66, 0, 0])
        self.assertEqual(last(GAME, pass_turn(), now()), [1, 1, 1, 0, 66, 0, 0])

    def test_when_a_play_may_be_challenged(self):
        self.assertEqual(last(GAME, CAT, now()), [2, 2, 0, 3, 66, 24, 0])
        self.assertEqual(last(GAME, CAT, word("CAT"), challenge(1), now()), [2, 2, 0, 3, 66, 24, 0])
        self.assertEqual(last(GAME, CAT, challenge(1), now()), [1, 1, 1, 0, 66, 0, 0])

    def test_while_a_swap_is_drawn_for(self):
        self.assertEqual(last(GAME, swap("CAT"), now()), [0, 0, 0, 3, 66, 0, 0])

    def test_when_it_is_over_by_six(self):
        self.assertEqual(last(GAME, [pass_turn()] * 6, now()), [3, 3, 0, 0, 66, -55, -28])

    def test_when_it_is_over_by_an_empty_hand(self):
        calls = start("CATDOGE", "ABCDEFG", bag=bag_of("CATDOGEABCDEFG"), rows=9) + [play(4, 1, 0, "CATDOGE")]
        self.assertEqual(last(calls, now()), [2, 2, 0, 0, 0, 105, 0])
        self.assertEqual(last(calls, draw([]), now()), [3, 3, 0, 0, 0, 133, -28])

    def test_all_players_points(self):
        calls = start("CATDOGE", "ABCDEFG", "HIJKLMN", "HIJKLMN")
        self.assertEqual(last(calls, now()), [1, 1, 0, 0, 52, 0, 0, 0, 0])
        calls += [CAT, draw("XYZ"), play(2, 4, 0, "B"), draw("B"), pass_turn()]
        self.assertEqual(last(calls, now()), [1, 1, 3, 0, 48, 24, 26, 0, 0])

    def test_behind_a_new_begin(self):
        for before in (GAME + [CAT], GAME + [pass_turn()] * 6):
            self.assertEqual(last(before, begin(players=3), now()), [0, 0, 0, 7, 80, 0, 0, 0])
        self.assertEqual(last(GAME, CAT, begin(rows=4), now()), [2, 2, 0, 3, 66, 24, 0])

    def test_what_each_call_told_is_told_again(self):
        calls = GAME + [CAT, draw("XYZ"), swap("AB"), draw("HI"), pass_turn(), play(2, 4, 0, "C"), challenge(0)]
        calls += [pass_turn()] * 3
        self.assertEqual(last(calls)[1], 3)
        for many in range(2, len(calls) + 1):
            told = run(calls[:many] + [now(), now()])
            self.assertEqual(told[-2], [told[-3][1]] + told[-3][1:])
            self.assertEqual(told[-1], told[-2])


if __name__ == "__main__":
    unittest.main()

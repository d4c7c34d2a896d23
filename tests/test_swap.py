"""Point 3: swap."""

import unittest

from support import HIGH, LOW, bag_now, bag_of, draw, hand_now, last, numbers, play, run, start, swap

GAME = start("CATDOGE", "ABCDEFG")
SEVEN_LEFT = start("CATDOGE", "ABCDEFG", bag=bag_of("CATDOGE" + "ABCDEFG" + "PQRSUVW"))
SIX_LEFT = start("CATDOGE", "ABCDEFG", bag=bag_of("CATDOGE" + "ABCDEFG" + "PQRSUV"))


class Refusals(unittest.TestCase):
    def test_without_a_game(self):
        self.assertEqual(last(swap("A")), [-3])
        self.assertEqual(last(swap([])), [-1])
        self.assertEqual(last(swap([27])), [-1])

    def test_none(self):
        self.assertEqual(last(GAME, swap([])), [-1])

    def test_tiles_that_may_not_be(self):
        for tile in (LOW, -1, 27, 52, HIGH):
            self.assertEqual(last(GAME, swap([tile])), [-1])
            self.assertEqual(last(GAME, swap([3, 1, tile])), [-1])

    def test_phases_in_which_no_play_is_due(self):
        self.assertEqual(last(GAME[:1], swap("C")), [-3])
        self.assertEqual(last(GAME[:2], swap("C")), [-3])
        self.assertEqual(last(GAME, play(2, 1, 0, "CAT"), swap("D")), [-3])
        self.assertEqual(last(GAME, swap("C"), swap("A")), [-3])

    def test_not_when_it_is_over(self):
        bag = bag_of("CATDOGE" + "ABCDEFG")
        calls = start("CATDOGE", "ABCDEFG", bag=bag, rows=9) + [play(4, 2, 0, "CATDOGE"), draw([])]
        self.assertEqual(last(calls, swap("A")), [-3])

    def test_tiles_that_are_not_in_hand(self):
        self.assertEqual(last(GAME, swap("B")), [-4])
        self.assertEqual(last(GAME, swap("CC")), [-4])
        self.assertEqual(last(GAME, swap("_")), [-4])
        self.assertEqual(last(GAME, swap("CATDOGEC")), [-4])
        self.assertEqual(last(GAME, swap([1] * 130)), [-4])

    def test_seven_in_the_bag_and_six(self):
        self.assertEqual(last(SEVEN_LEFT, swap("C")), [1, 0, 0, 1, 7, 0, 0])
        self.assertEqual(last(SIX_LEFT, swap("C")), [-5])

    def test_six_in_the_bag_behind_a_draw(self):
        calls = SEVEN_LEFT + [play(2, 1, 0, "CA"), draw("PQ")]
        self.assertEqual(last(calls, swap("A")), [-5])

    def test_the_one_told_first(self):
        self.assertEqual(last(SIX_LEFT, swap("Z")), [-5])
        self.assertEqual(last(SEVEN_LEFT, swap("Z")), [-4])
        self.assertEqual(last(SIX_LEFT, swap([])), [-1])
        self.assertEqual(last(GAME[:2], swap([])), [-1])
        self.assertEqual(last(SIX_LEFT, play(2, 1, 0, "CAT"), swap("Z")), [-3])

    def test_nothing_changes_behind_a_refusal(self):
        calls = GAME + [swap([]), swap("CATB")]
        self.assertEqual(hand_now(calls), sorted(numbers("CATDOGE")))
        self.assertEqual(last(calls, play(2, 1, 0, "CAT")), [24, 2, 0, 3, 66, 24, 0])
        self.assertEqual(last(SIX_LEFT, swap("C"), play(2, 1, 0, "CAT")), [24, 2, 0, 3, 6, 24, 0])


class Swap(unittest.TestCase):
    def test_as_many_are_drawn(self):
        calls = GAME + [swap("CAT")]
        self.assertEqual(last(calls), [3, 0, 0, 3, 66, 0, 0])
        for wrong in ([], "XY", "XYZX"):
            self.assertEqual(last(calls, draw(wrong)), [-4])
        self.assertEqual(last(calls, draw("XYZ")), [0, 1, 1, 0, 66, 0, 0])

    def test_the_hand_behind_it(self):
        calls = start("CAT_OGE", "ABCDEFG") + [swap("C_A"), draw("XYX"), swap("A"), draw("H")]
        self.assertEqual(hand_now(calls), sorted(numbers("TOGEXYX")))

    def test_one_of_two_alike_stays_in_hand(self):
        calls = start("CCTDOGE", "ABCDEFG") + [swap("C"), draw("X"), swap("A"), draw("H")]
        self.assertEqual(hand_now(calls), sorted(numbers("CTDOGEX")))

    def test_all_seven_at_seven_in_the_bag(self):
        calls = SEVEN_LEFT + [swap("CATDOGE")]
        self.assertEqual(last(calls), [7, 0, 0, 7, 7, 0, 0])
        self.assertEqual(last(calls, draw("PQRSUVW")), [0, 1, 1, 0, 7, 0, 0])

    def test_what_is_put_aside_is_in_the_bag_behind_the_draw_alone(self):
        calls = SEVEN_LEFT + [swap("C")]
        self.assertEqual(last(calls, draw("C")), [-5])
        self.assertEqual(bag_now(calls), numbers("PQRSUVW"))
        calls += [draw("P"), swap("A")]
        self.assertEqual(last(calls), [1, 0, 1, 1, 7, 0, 0])
        self.assertEqual(bag_now(calls), numbers("CQRSUVW"))

    def test_what_is_put_aside_comes_back_once(self):
        calls = SEVEN_LEFT + [swap("C"), draw("P"), swap("A"), draw("C"), swap("P"), draw("A")]
        self.assertEqual(last(calls), [0, 1, 1, 0, 7, 0, 0])
        self.assertEqual(bag_now(calls + [swap("C")]), numbers("PQRSUVW"))

    def test_a_blank_put_aside_comes_back_as_a_blank(self):
        calls = start("_ATDOGE", "ABCDEFG", bag=bag_of("_ATDOGE" + "ABCDEFG" + "PQRSUVW"))
        calls += [swap("_"), draw("P"), swap("A")]
        self.assertEqual(bag_now(calls), numbers("_QRSUVW"))

    def test_the_turn_is_over_behind_the_draw(self):
        calls = start("CATDOGE", "ABCDEFG", "HIJKLMN") + [swap("C"), draw("X"), swap("A"), draw("Y"), swap("H")]
        self.assertEqual(run(calls)[-3:], [
            [1, 0, 1, 1, 59, 0, 0, 0], [0, 1, 2, 0, 59, 0, 0, 0], [1, 0, 2, 1, 59, 0, 0, 0],
        ])
        self.assertEqual(last(calls, draw("Z")), [0, 1, 0, 0, 59, 0, 0, 0])

    def test_a_play_behind_a_swap_draws_as_ever(self):
        calls = GAME + [swap("C"), draw("X"), play(2, 1, 0, "AB"), draw("CY")]
        self.assertEqual(last(calls), [0, 1, 0, 0, 64, 0, 3])


if __name__ == "__main__":
    unittest.main()

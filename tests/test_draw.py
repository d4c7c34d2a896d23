"""Point 2: draw."""

import unittest

from support import HIGH, LOW, bag_now, bag_of, begin, draw, hand_now, last, numbers, play, run, start, swap


class Draw(unittest.TestCase):
    def test_without_a_game(self):
        self.assertEqual(last(draw([])), [-3])
        self.assertEqual(last(draw("ABCDEFG")), [-3])
        self.assertEqual(last(draw([27])), [-1])

    def test_tiles_that_may_not_be(self):
        for tile in (LOW, -1, 27, 52, HIGH):
            self.assertEqual(last(begin(), draw([1, 2, 3, 4, 5, 6, tile])), [-1])
            self.assertEqual(last(begin(), draw([tile, 1, 2, 3, 4, 5, 6])), [-1])

    def test_the_ends_of_the_sorts(self):
        self.assertEqual(last(begin(), draw([0, 26, 1, 2, 3, 4, 5])), [0, 0, 1, 7, 73, 0, 0])

    def test_not_as_many_as_are_to_be_drawn(self):
        for many in (0, 1, 6, 8, 130):
            self.assertEqual(last(begin(bag=[30] * 27), draw([5] * many)), [-4], many)

    def test_not_all_in_the_bag(self):
        self.assertEqual(last(begin(), draw("AAAABCD")), [-5])
        self.assertEqual(last(begin(), draw("AAABCDE"))[0], 0)
        self.assertEqual(last(begin(), draw("___ABCD")), [-5])
        self.assertEqual(last(begin(), draw("__ABCDE"))[0], 0)
        self.assertEqual(last(begin(), draw("AAABCDE"), draw("ABCDEFG")), [-5])

    def test_where_nothing_is_to_be_drawn(self):
        calls = start("CATDOGE", "ABCDEFG")
        self.assertEqual(last(calls, draw([])), [-3])
        self.assertEqual(last(calls, draw("A")), [-3])
        self.assertEqual(last(calls, draw([-1])), [-1])

    def test_the_one_told_first(self):
        calls = start("CATDOGE", "ABCDEFG")
        self.assertEqual(last(calls, draw([27] * 130)), [-1])
        self.assertEqual(last(begin(), draw([27])), [-1])
        self.assertEqual(last(begin(), draw([1] * 8)), [-4])
        self.assertEqual(last(begin(), draw([1] * 6)), [-4])

    def test_nothing_changes_behind_a_refusal(self):
        refused = [draw([27]), draw("A"), draw("AAAABCD")]
        calls = [begin()] + refused + [draw("CATDOGE")] + refused + [draw("ABCDEFG")]
        self.assertEqual(run(calls)[4], [0, 0, 1, 7, 73, 0, 0])
        self.assertEqual(run(calls)[8], [0, 1, 0, 0, 66, 0, 0])
        self.assertEqual(hand_now(calls), sorted(numbers("CATDOGE")))

    def test_up_to_seven_behind_a_play(self):
        calls = start("CATDOGE", "ABCDEFG") + [play(2, 1, 0, "CAT")]
        self.assertEqual(last(calls), [24, 2, 0, 3, 66, 24, 0])
        for wrong in ([], "X", "XY", "XYZX"):
            self.assertEqual(last(calls, draw(wrong)), [-4])
        self.assertEqual(last(calls, draw("XYZ")), [0, 1, 1, 0, 63, 24, 0])

    def test_what_is_drawn_is_in_hand(self):
        calls = start("CATDOGE", "ABCDEFG") + [play(2, 1, 0, "CAT"), draw("XY_")]
        self.assertEqual(hand_now(calls), sorted(numbers("ABCDEFG")))
        calls += [swap("A"), draw("H")]
        self.assertEqual(hand_now(calls), sorted(numbers("DOGEXY_")))

    def test_what_is_drawn_is_not_in_the_bag(self):
        calls = start("AAABCDE", "BCDEFGH") + [swap("C")]
        self.assertNotIn(1, bag_now(calls))
        self.assertEqual(bag_now(calls), [0] + list(range(2, 27)))

    def test_all_there_are_when_the_bag_runs_empty(self):
        bag = bag_of("CATDOGE" + "ABCDEFG" + "XY")
        calls = start("CATDOGE", "ABCDEFG", bag=bag) + [play(2, 1, 0, "CAT")]
        self.assertEqual(last(calls), [24, 2, 0, 2, 2, 24, 0])
        self.assertEqual(last(calls, draw("X")), [-4])
        self.assertEqual(last(calls, draw("XYX")), [-4])
        self.assertEqual(last(calls, draw("XX")), [-5])
        self.assertEqual(last(calls, draw("CA")), [-5])
        self.assertEqual(last(calls, draw("YX")), [0, 1, 1, 0, 0, 24, 0])

    def test_none_where_none_are_to_be_drawn(self):
        bag = bag_of("CATDOGE" + "ABCDEFG")
        calls = start("CATDOGE", "ABCDEFG", bag=bag)
        self.assertEqual(last(calls), [0, 1, 0, 0, 0, 0, 0])
        calls += [play(2, 1, 0, "CAT")]
        self.assertEqual(last(calls), [24, 2, 0, 0, 0, 24, 0])
        self.assertEqual(last(calls, draw("X")), [-4])
        self.assertEqual(last(calls, draw([])), [0, 1, 1, 0, 0, 24, 0])
        calls += [draw([]), play(1, 2, 0, "A")]
        self.assertEqual(last(calls), [2, 2, 1, 0, 0, 24, 2])
        self.assertEqual(last(calls, draw([])), [0, 1, 0, 0, 0, 24, 2])
        self.assertEqual(hand_now(calls + [draw([])]), sorted(numbers("DOGE")))

    def test_not_when_it_is_over(self):
        bag = bag_of("CATDOGE" + "ABCDEFG")
        calls = start("CATDOGE", "ABCDEFG", bag=bag, rows=9) + [play(4, 2, 0, "CATDOGE"), draw([])]
        self.assertEqual(last(calls)[1], 3)
        self.assertEqual(last(calls, draw([])), [-3])
        self.assertEqual(last(calls, draw([27])), [-1])


if __name__ == "__main__":
    unittest.main()

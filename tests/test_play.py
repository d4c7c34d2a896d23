"""Point 3: play, what may be laid and what it counts."""

import unittest

from support import HIGH, LOW, bag_of, begin, challenge, draw, hand_now, last, numbers, play, run, start, swap

GAME = start("CATDOGE", "ABCDEFG")
# CAT lies in the middle row, from (2, 1) to (2, 3), and it's player 1's turn.
BEHIND_CAT = GAME + [play(2, 1, 0, "CAT"), draw("XYZ")]


class Refusals(unittest.TestCase):
    def test_without_a_game_no_square_is_there(self):
        self.assertEqual(last(play(0, 0, 0, "A")), [-1])
        self.assertEqual(last(play(0, 0, 0, [])), [-1])
        self.assertEqual(last(begin(rows=4), play(0, 0, 0, "A")), [-1])

    def test_squares_that_are_not_there(self):
        for place in (LOW, -1, 5, HIGH):
            self.assertEqual(last(GAME, play(place, 2, 0, "CAT")), [-1])
            self.assertEqual(last(GAME, play(2, place, 0, "CAT")), [-1])
        self.assertEqual(last(GAME, play(4, 4, 0, "C")), [-6])
        self.assertEqual(last(GAME, play(0, 0, 0, "C")), [-6])

    def test_directions_that_are_not_there(self):
        for down in (LOW, -1, 2, HIGH):
            self.assertEqual(last(GAME, play(2, 1, down, "CAT")), [-1])

    def test_numbers_of_tiles(self):
        for many in (0, 8, 130):
            self.assertEqual(last(GAME, play(2, 1, 0, [3] * many)), [-1])
        self.assertEqual(last(GAME, play(2, 1, 0, "C")), [-6])
        self.assertEqual(last(GAME, play(2, 1, 0, "CATDOGE")), [-6])

    def test_tiles_that_may_not_be(self):
        for tile in (LOW, -1, 0, 53, HIGH):
            self.assertEqual(last(GAME, play(2, 1, 0, [tile])), [-1])
            self.assertEqual(last(GAME, play(2, 1, 0, [3, 1, tile])), [-1])
        for tile in (26, 27, 52):
            self.assertEqual(last(GAME, play(2, 1, 0, [3, tile])), [-4])

    def test_phases_in_which_no_play_is_due(self):
        self.assertEqual(last(GAME[:1], play(2, 1, 0, "CAT")), [-3])
        self.assertEqual(last(GAME[:2], play(2, 1, 0, "CAT")), [-3])
        self.assertEqual(last(GAME, play(2, 1, 0, "CAT"), play(1, 1, 0, "DOG")), [-3])
        self.assertEqual(last(GAME, swap("CAT"), play(2, 1, 0, "DO")), [-3])

    def test_not_when_it_is_over(self):
        bag = bag_of("CATDOGE" + "ABCDEFG")
        calls = start("CATDOGE", "ABCDEFG", bag=bag, rows=9) + [play(4, 2, 0, "CATDOGE"), draw([])]
        self.assertEqual(last(calls, play(3, 2, 0, "A")), [-3])
        self.assertEqual(last(calls, play(9, 2, 0, "A")), [-1])

    def test_tiles_that_are_not_in_hand(self):
        self.assertEqual(last(GAME, play(2, 1, 0, "CAB")), [-4])
        self.assertEqual(last(GAME, play(2, 1, 0, "CAA")), [-4])
        self.assertEqual(last(GAME, play(2, 1, 0, "CAt")), [-4])
        self.assertEqual(last(BEHIND_CAT, play(1, 1, 0, "T")), [-4])
        self.assertEqual(last(BEHIND_CAT, play(1, 1, 0, "X")), [-4])

    def test_blanks_are_tiles_in_hand(self):
        calls = start("_ATDOGE", "ABCDEFG")
        self.assertEqual(last(calls, play(2, 1, 0, "cAT"))[0], 21)
        self.assertEqual(last(calls, play(2, 1, 0, "CAT")), [-4])
        self.assertEqual(last(calls, play(2, 1, 0, "caT")), [-4])
        self.assertEqual(last(start("__TDOGE", "ABCDEFG"), play(2, 1, 0, "caT"))[0], 20)
        self.assertEqual(last(start("__TDOGE", "ABCDEFG"), play(2, 1, 0, "zzT"))[0], 20)

    def test_the_one_told_first(self):
        self.assertEqual(last(GAME[:1], play(5, 1, 0, "CAT")), [-1])
        self.assertEqual(last(GAME[:1], play(2, 1, 2, "CAT")), [-1])
        self.assertEqual(last(GAME[:1], play(2, 1, 0, [])), [-1])
        self.assertEqual(last(GAME, play(2, 1, 0, "CAT"), play(2, 1, 0, "Z")), [-3])
        self.assertEqual(last(GAME, play(0, 0, 0, "Z")), [-4])
        self.assertEqual(last(BEHIND_CAT, play(2, 1, 0, "Z")), [-4])
        self.assertEqual(last(BEHIND_CAT, play(2, 1, 0, "A")), [-6])

    def test_nothing_changes_behind_a_refusal(self):
        refused = [play(5, 1, 0, "CAT"), play(2, 1, 0, "CAB"), play(0, 0, 0, "CAT"), play(2, 3, 0, "CAT")]
        calls = GAME + refused
        self.assertEqual(run(calls)[-4:], [[-1], [-4], [-6], [-6]])
        self.assertEqual(hand_now(calls), sorted(numbers("CATDOGE")))
        self.assertEqual(last(calls, play(2, 1, 0, "CAT")), [24, 2, 0, 3, 66, 24, 0])


class Laying(unittest.TestCase):
    def test_right_and_down_over_the_middle(self):
        for column in (0, 1, 2):
            self.assertEqual(last(GAME, play(2, column, 0, "CAT")), [24, 2, 0, 3, 66, 24, 0])
            self.assertEqual(last(GAME, play(column, 2, 1, "CAT")), [24, 2, 0, 3, 66, 24, 0])

    def test_off_the_middle_of_an_empty_board(self):
        for row, column, down in ((1, 1, 0), (3, 1, 0), (0, 0, 0), (0, 2, 0), (1, 1, 1), (1, 3, 1), (0, 0, 1)):
            self.assertEqual(last(GAME, play(row, column, down, "CAT")), [-6])
        self.assertEqual(last(GAME, play(2, 0, 0, "CA")), [-6])
        self.assertEqual(last(GAME, play(0, 2, 1, "CA")), [-6])
        self.assertEqual(last(GAME, play(2, 3, 0, "CA")), [-6])

    def test_the_middle_of_each_size(self):
        for rows in (3, 5, 7, 9, 11):
            calls = start("CATDOGE", "ABCDEFG", rows=rows)
            middle = rows // 2
            self.assertEqual(last(calls, play(middle, middle, 0, "CA"))[0], 4)
            self.assertEqual(last(calls, play(middle - 1, middle, 1, "CA"))[0], 4)
            self.assertEqual(last(calls, play(middle - 1, middle - 1, 0, "CA")), [-6])
            self.assertEqual(last(calls, play(middle, middle + 1, 1, "CA")), [-6])

    def test_one_tile_that_makes_no_word(self):
        self.assertEqual(last(GAME, play(2, 2, 0, "C")), [-6])
        self.assertEqual(last(GAME, play(2, 2, 1, "C")), [-6])

    def test_to_the_last_square_and_beyond(self):
        self.assertEqual(last(GAME, play(2, 0, 0, "CATDO"))[0], 43)
        self.assertEqual(last(GAME, play(0, 2, 1, "CATDO"))[0], 43)
        self.assertEqual(last(GAME, play(2, 0, 0, "CATDOG")), [-6])
        self.assertEqual(last(GAME, play(2, 1, 0, "CATDO")), [-6])
        self.assertEqual(last(GAME, play(1, 2, 1, "CATDO")), [-6])

    def test_the_square_told_is_taken(self):
        for column in (1, 2, 3):
            self.assertEqual(last(BEHIND_CAT, play(2, column, 0, "A")), [-6])
            self.assertEqual(last(BEHIND_CAT, play(2, column, 1, "A")), [-6])

    def test_over_squares_that_are_taken(self):
        self.assertEqual(last(BEHIND_CAT, play(2, 0, 0, "AB")), [1 + 24 + 2, 2, 1, 2, 63, 24, 27])
        self.assertEqual(last(BEHIND_CAT, play(2, 0, 0, "ABC")), [-6])
        self.assertEqual(last(BEHIND_CAT, play(0, 3, 1, "ABCD")), [1 + 2 + 20 + 3 + 4, 2, 1, 4, 63, 24, 30])
        self.assertEqual(last(BEHIND_CAT, play(0, 3, 1, "ABCDE")), [-6])

    def test_over_taken_squares_twice(self):
        # The third column holds A in the middle; E is put below it and then both are gone over.
        calls = BEHIND_CAT + [play(3, 2, 1, "E"), draw("H"), play(1, 2, 1, "DO")]
        self.assertEqual(run(calls)[-1][0], 4 + 1 + 5 + 15)

    def test_the_square_behind_the_board_is_no_neighbour(self):
        # The end of one row lies beside the beginning of the next only in the list.
        calls = GAME + [play(2, 2, 0, "CAT"), draw("XYZ")]
        self.assertEqual(last(calls, play(3, 0, 0, "AB")), [-6])
        self.assertEqual(last(calls, play(3, 0, 1, "AB")), [-6])
        calls = GAME + [play(2, 0, 0, "CAT"), draw("XYZ")]
        self.assertEqual(last(calls, play(1, 4, 1, "A")), [-6])
        self.assertEqual(last(calls, play(0, 4, 1, "AB")), [-6])

    def test_the_last_row_is_no_neighbour_of_the_first(self):
        calls = GAME + [play(2, 2, 1, "CAT"), draw("XYZ")]
        self.assertEqual(last(calls, play(0, 2, 0, "AB")), [-6])
        self.assertEqual(last(calls, play(1, 2, 0, "AB"))[0], 1 + 2 + 1 + 24)
        calls = GAME + [play(0, 2, 1, "CAT"), draw("XYZ")]
        self.assertEqual(last(calls, play(4, 2, 0, "AB")), [-6])
        self.assertEqual(last(calls, play(3, 2, 0, "AB"))[0], 1 + 2 + 1 + 24)

    def test_with_and_without_a_neighbour(self):
        for row, column in ((1, 1), (1, 3), (3, 1), (3, 3), (2, 0), (2, 4)):
            self.assertNotEqual(last(BEHIND_CAT, play(row, column, 0, "A")), [-6])
            self.assertNotEqual(last(BEHIND_CAT, play(row, column, 1, "A")), [-6])
        for row, column in ((0, 0), (0, 2), (1, 0), (1, 4), (3, 0), (3, 4), (4, 1), (4, 4)):
            self.assertEqual(last(BEHIND_CAT, play(row, column, 0, "A")), [-6])
            self.assertEqual(last(BEHIND_CAT, play(row, column, 1, "A")), [-6])

    def test_a_neighbour_of_any_of_its_squares(self):
        self.assertEqual(last(BEHIND_CAT, play(0, 0, 1, "AB")), [-6])
        self.assertEqual(last(BEHIND_CAT, play(0, 0, 1, "ABC"))[0], 1 + 2 + 3 + 3 + 24)
        self.assertEqual(last(BEHIND_CAT, play(4, 0, 0, "AB")), [-6])
        self.assertEqual(last(BEHIND_CAT, play(1, 0, 0, "AB"))[0], 1 + 2 + 2 + 3)

    def test_the_tiles_laid_are_out_of_the_hand(self):
        calls = GAME + [play(2, 1, 0, "CAT"), draw("XYZ"), swap("A"), draw("H")]
        self.assertEqual(hand_now(calls), sorted(numbers("DOGEXYZ")))

    def test_one_of_two_alike_stays_in_hand(self):
        calls = start("CAACDOG", "ABCDEFG") + [play(2, 1, 0, "CA"), draw("XY"), swap("A"), draw("H")]
        self.assertEqual(hand_now(calls), sorted(numbers("ACDOGXY")))

    def test_behind_a_play_that_fell_the_board_is_empty_again(self):
        calls = GAME + [play(2, 1, 0, "CAT"), challenge(1)]
        self.assertEqual(last(calls), [1, 1, 1, 0, 66, 0, 0])
        self.assertEqual(last(calls, play(1, 1, 0, "AB")), [-6])
        self.assertEqual(last(calls, play(2, 1, 0, "AB"))[0], 3)


class Counting(unittest.TestCase):
    def counts(self, special, *call):
        return last(start("CATDOGE", "ABCDEFG", rows=7, squares=special), play(*call))[0]

    def test_letters_twice_and_thrice(self):
        self.assertEqual(self.counts({(3, 1): 1}, 3, 1, 0, "CAT"), 6 + 1 + 20)
        self.assertEqual(self.counts({(3, 3): 2}, 3, 1, 0, "CAT"), 3 + 1 + 60)
        self.assertEqual(self.counts({(3, 1): 1, (3, 2): 1, (3, 3): 2}, 3, 1, 0, "CAT"), 6 + 2 + 60)

    def test_words_twice_and_thrice(self):
        self.assertEqual(self.counts({(3, 1): 3}, 3, 1, 0, "CAT"), 48)
        self.assertEqual(self.counts({(3, 1): 4}, 3, 1, 0, "CAT"), 72)

    def test_several_in_one_word_all_count(self):
        self.assertEqual(self.counts({(3, 1): 3, (3, 2): 3}, 3, 1, 0, "CAT"), 96)
        self.assertEqual(self.counts({(3, 1): 3, (3, 2): 4}, 3, 1, 0, "CAT"), 144)
        self.assertEqual(self.counts({(3, 1): 4, (3, 2): 4, (3, 3): 4}, 3, 1, 0, "CAT"), 24 * 27)

    def test_letters_ahead_of_words(self):
        self.assertEqual(self.counts({(3, 1): 2, (3, 3): 3}, 3, 1, 0, "CAT"), (9 + 1 + 20) * 2)
        self.assertEqual(self.counts({(3, 1): 3, (3, 3): 2}, 3, 1, 0, "CAT"), (3 + 1 + 60) * 2)

    def test_down_as_well(self):
        self.assertEqual(self.counts({(1, 3): 2, (3, 3): 3}, 1, 3, 1, "CAT"), (9 + 1 + 20) * 2)
        self.assertEqual(self.counts({(3, 1): 2, (3, 2): 3}, 1, 3, 1, "CAT"), 24)

    def test_squares_beside_the_play_count_nothing(self):
        self.assertEqual(self.counts({(3, 0): 4, (3, 4): 4, (2, 2): 4, (4, 2): 2}, 3, 1, 0, "CAT"), 24)

    def test_blanks_are_worth_nothing_but_their_square_counts_for_the_word(self):
        for special, worth in (({}, 21), ({(2, 1): 2}, 21), ({(2, 1): 4}, 63), ({(2, 1): 3, (2, 3): 1}, 82)):
            calls = start("_ATDOGE", "ABCDEFG", squares=special)
            self.assertEqual(last(calls, play(2, 1, 0, "cAT"))[0], worth)

    def test_a_blank_counts_nothing_later_either(self):
        calls = start("_ATDOGE", "ABCDEFG") + [play(2, 1, 0, "cAT"), draw("XYZ"), play(1, 1, 1, "B")]
        self.assertEqual(last(calls)[0], 2)

    def test_fifty_more_at_seven_tiles(self):
        calls = start("CATDOGE", "ABCDEFG", rows=9)
        self.assertEqual(last(calls, play(4, 1, 0, "CATDOGE"))[0], 3 + 1 + 20 + 4 + 15 + 7 + 5 + 50)
        self.assertEqual(last(calls, play(4, 1, 0, "CATDOG"))[0], 3 + 1 + 20 + 4 + 15 + 7)

    def test_fifty_are_not_multiplied(self):
        calls = start("CATDOGE", "ABCDEFG", rows=9, squares={(4, 1): 4})
        self.assertEqual(last(calls, play(4, 1, 0, "CATDOGE"))[0], 55 * 3 + 50)

    def test_seven_laid_not_seven_letters(self):
        calls = start("CATDOGE", "ABCDEFG", rows=9) + [play(4, 4, 0, "CA"), draw("XY"), play(4, 1, 0, "ABCDE")]
        self.assertEqual(last(calls)[0], 1 + 2 + 3 + 4 + 4 + 5)
        calls = start("CATDOGE", "ABCDEFG", rows=9) + [play(4, 4, 0, "CA"), draw("XY"), play(4, 0, 0, "ABCDEFG")]
        self.assertEqual(last(calls)[0], 28 + 4 + 50)

    def test_words_across(self):
        # AB below CAT's C and A: AB, CA and AB down.
        self.assertEqual(last(BEHIND_CAT, play(3, 1, 0, "AB"))[0], (1 + 2) + (3 + 1) + (1 + 2))
        self.assertEqual(last(BEHIND_CAT, play(3, 1, 0, "ABC"))[0], (1 + 2 + 3) + (3 + 1) + (1 + 2) + (20 + 3))

    def test_words_across_a_play_down(self):
        # A and B beside CAT's T: TB right, AB down.
        self.assertEqual(last(BEHIND_CAT, play(1, 4, 1, "AB"))[0], (1 + 2) + (24 + 2))

    def test_words_across_have_letters_on_both_sides(self):
        calls = start("CATDOGE", "ABCDEFG", rows=7)
        calls += [play(3, 2, 0, "CAT"), draw("XYZ"), play(4, 2, 1, "AB"), draw("HI"), play(5, 3, 0, "DO"), draw("JK")]
        calls += [play(4, 3, 0, "C")]
        # C stands between A and nothing in its row; between A above and D below in its column.
        self.assertEqual(last(calls)[0], (1 + 3) + (1 + 3 + 4))

    def test_the_word_along_the_line_alone_may_be_one_letter(self):
        # A tile told as laid to the right that makes a word down alone.
        self.assertEqual(last(BEHIND_CAT, play(1, 1, 0, "A"))[0], 1 + 3)
        self.assertEqual(last(BEHIND_CAT, play(1, 1, 1, "A"))[0], 1 + 3)

    def test_the_word_along_the_line_begins_ahead_of_the_first_square(self):
        self.assertEqual(last(BEHIND_CAT, play(2, 4, 0, "B"))[0], 24 + 2)
        self.assertEqual(last(BEHIND_CAT, play(2, 4, 1, "B"))[0], 24 + 2)

    def test_squares_count_for_new_tiles_alone(self):
        special = {(2, 1): 2, (2, 2): 4}
        calls = start("CATDOGE", "ABCDEFG", squares=special) + [play(2, 1, 0, "CAT")]
        self.assertEqual(last(calls)[0], (9 + 1 + 20) * 3)
        self.assertEqual(last(calls, draw("XYZ"), play(2, 4, 0, "B"))[0], 24 + 2)
        self.assertEqual(last(calls, draw("XYZ"), play(3, 2, 1, "B"))[0], 1 + 2)

    def test_a_new_tile_counts_more_in_both_its_words(self):
        for more, counts in ((1, (1 + 4) + (1 + 4)), (2, (1 + 6) + (1 + 6)), (3, 6 + 6), (4, 9 + 9)):
            calls = start("CATDOGE", "ABCDEFG", squares={(3, 2): more})
            calls += [play(2, 1, 0, "CAT"), draw("XYZ"), play(3, 1, 0, "AB")]
            # AB right, CA down, AB down: B is new in the first and the third.
            self.assertEqual(last(calls)[0], counts + 4)

    def test_a_square_counts_again_when_a_play_fell(self):
        calls = start("CATDOGE", "ABCDEFG", squares={(2, 1): 4})
        calls += [play(2, 1, 0, "CAT"), challenge(1), play(2, 1, 0, "ABC")]
        self.assertEqual(last(calls), [18, 2, 1, 3, 66, 0, 18])

    def test_points_add_up(self):
        calls = BEHIND_CAT + [play(2, 4, 0, "B"), draw("H"), play(3, 1, 0, "DO"), draw("IJ")]
        self.assertEqual(run(calls)[-4:], [
            [26, 2, 1, 1, 63, 24, 26],
            [0, 1, 0, 0, 62, 24, 26],
            [(4 + 15) + (3 + 4) + (1 + 15), 2, 0, 2, 62, 66, 26],
            [0, 1, 1, 0, 60, 66, 26],
        ])


if __name__ == "__main__":
    unittest.main()

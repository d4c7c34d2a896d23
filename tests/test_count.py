"""Point 3: count, what a play would count and which words it would make."""

import unittest

from support import (
    HIGH, LOW, bag_of, begin, board, challenge, count, draw, hand, last, now, numbers, pass_turn, play, run, start,
    swap, word,
)

GAME = start("CATDOGE", "ABCDEFG")
CAT = play(2, 1, 0, "CAT")
# CAT lies in the middle row, from (2, 1) to (2, 3), and it's player 1's turn.
BEHIND_CAT = GAME + [CAT, draw("XYZ")]
OVER = BEHIND_CAT + [pass_turn()] * 6


def told_of(total, *words):
    """The answer that tells this sum and these words, each with what it counts."""
    found = [total, len(words)]
    for letters, worth in words:
        found += [len(letters)] + numbers(letters) + [worth]
    return found


class Refusals(unittest.TestCase):
    def test_without_a_game_no_square_is_there(self):
        self.assertEqual(last(count(0, 0, 0, "A")), [-1])
        self.assertEqual(last(count(0, 0, 0, [])), [-1])
        self.assertEqual(last(begin(rows=4), count(0, 0, 0, "A")), [-1])

    def test_squares_that_are_not_there(self):
        for place in (LOW, -1, 5, HIGH):
            self.assertEqual(last(GAME, count(place, 2, 0, "CAT")), [-1])
            self.assertEqual(last(GAME, count(2, place, 0, "CAT")), [-1])
        self.assertEqual(last(GAME, count(4, 4, 0, "C")), [-6])
        self.assertEqual(last(GAME, count(0, 0, 0, "C")), [-6])

    def test_directions_that_are_not_there(self):
        for down in (LOW, -1, 2, HIGH):
            self.assertEqual(last(GAME, count(2, 1, down, "CAT")), [-1])

    def test_numbers_of_tiles(self):
        for many in (0, 8, 130):
            self.assertEqual(last(GAME, count(2, 1, 0, [3] * many)), [-1])
        self.assertEqual(last(GAME, count(2, 1, 0, [3])), [-6])
        self.assertEqual(last(GAME, count(2, 1, 0, [3] * 7)), [-6])

    def test_tiles_that_may_not_be(self):
        for tile in (LOW, -1, 0, 53, HIGH):
            self.assertEqual(last(GAME, count(2, 1, 0, [tile])), [-1])
            self.assertEqual(last(GAME, count(2, 1, 0, [3, 1, tile])), [-1])
        for tile in (1, 26, 27, 52):
            self.assertEqual(last(GAME, count(2, 1, 0, [3, tile]))[1], 1)

    def test_off_the_middle_of_an_empty_board(self):
        for row, column, down in ((1, 1, 0), (3, 1, 0), (0, 2, 0), (1, 1, 1), (1, 3, 1), (3, 2, 1)):
            self.assertEqual(last(GAME, count(row, column, down, "CA")), [-6])

    def test_one_tile_that_makes_no_word(self):
        self.assertEqual(last(GAME, count(2, 2, 0, "C")), [-6])
        self.assertEqual(last(GAME, count(2, 2, 1, "C")), [-6])

    def test_no_room(self):
        self.assertEqual(last(GAME, count(2, 1, 0, "CATDO")), [-6])
        self.assertEqual(last(GAME, count(1, 2, 1, "CATDO")), [-6])
        self.assertEqual(last(GAME, count(2, 0, 0, "CATDO"))[0], 43)
        self.assertEqual(last(BEHIND_CAT, count(2, 0, 0, "ABC")), [-6])

    def test_the_square_told_is_taken(self):
        for column in (1, 2, 3):
            for down in (0, 1):
                self.assertEqual(last(BEHIND_CAT, count(2, column, down, "A")), [-6])

    def test_no_neighbour(self):
        for row, column in ((0, 0), (0, 2), (1, 0), (1, 4), (3, 0), (3, 4), (4, 1), (4, 4)):
            for down in (0, 1):
                self.assertEqual(last(BEHIND_CAT, count(row, column, down, "A")), [-6])

    def test_the_one_told_first(self):
        self.assertEqual(last(BEHIND_CAT, count(2, 1, 2, "A")), [-1])
        self.assertEqual(last(BEHIND_CAT, count(2, 1, 0, [53])), [-1])
        self.assertEqual(last(BEHIND_CAT, count(2, 1, 0, [])), [-1])
        self.assertEqual(last(BEHIND_CAT, count(2, 4, 0, [1] * 8)), [-1])
        self.assertEqual(last(BEHIND_CAT, count(0, 5, 0, "A")), [-1])

    def test_in_every_phase(self):
        for calls in (GAME[:1], GAME[:2], GAME, GAME + [swap("C")], GAME + [CAT], OVER):
            self.assertEqual(last(calls, count(5, 0, 0, "A")), [-1])
            self.assertEqual(last(calls, count(2, 2, 0, [0])), [-1])
            self.assertEqual(last(calls, count(0, 0, 0, "A")), [-6])


class WhateverElseStands(unittest.TestCase):
    def test_in_every_phase(self):
        for calls in (GAME[:1], GAME[:2], GAME, GAME + [swap("CAT")], GAME + [pass_turn()] * 6):
            self.assertEqual(last(calls, count(2, 1, 0, "CAT")), told_of(24, ("CAT", 24)))
        for calls in (GAME + [CAT], GAME + [CAT, word("CAT"), challenge(1)], BEHIND_CAT, OVER):
            self.assertEqual(last(calls, count(2, 4, 0, "S")), told_of(43, ("CATS", 43)))

    def test_tiles_that_nobody_has_and_no_bag_has(self):
        calls = start("CATDOGE", "ABCDEFG", bag=bag_of("CATDOGEABCDEFG"))
        self.assertEqual(last(calls, count(2, 0, 0, "ZZZZZ")), told_of(5, ("ZZZZZ", 5)))
        self.assertEqual(last(calls, count(2, 0, 0, "zzzzz")), [0, 1, 5, 26, 26, 26, 26, 26, 0])

    def test_whosever_turn_it_is(self):
        for calls in (GAME, GAME + [pass_turn()]):
            self.assertEqual(last(calls, count(2, 1, 0, "DOG")), told_of(26, ("DOG", 26)))
            self.assertEqual(last(calls, count(2, 1, 0, "BAD")), told_of(7, ("BAD", 7)))

    def test_words_need_not_be_in_the_list(self):
        for more in ([], [word("CAT")], [word("DOG")]):
            self.assertEqual(last(GAME + more, count(2, 1, 0, "CAT")), told_of(24, ("CAT", 24)))

    def test_behind_a_play_that_fell(self):
        calls = GAME + [CAT, challenge(1)]
        self.assertEqual(last(calls, count(2, 4, 0, "S")), [-6])
        self.assertEqual(last(calls, count(2, 1, 0, "CAT")), told_of(24, ("CAT", 24)))

    def test_behind_a_new_begin(self):
        self.assertEqual(last(BEHIND_CAT, begin(rows=7, worths=[0] * 27), count(2, 4, 0, "S")), [-6])
        self.assertEqual(last(BEHIND_CAT, begin(worths=[0] * 27), count(2, 1, 0, "CAT")), told_of(0, ("CAT", 0)))
        self.assertEqual(last(BEHIND_CAT, begin(rows=2), count(2, 4, 0, "S")), told_of(43, ("CATS", 43)))


class Words(unittest.TestCase):
    def test_down(self):
        self.assertEqual(last(GAME, count(0, 2, 1, "CAT")), told_of(24, ("CAT", 24)))

    def test_over_taken_squares(self):
        self.assertEqual(last(BEHIND_CAT, count(2, 0, 0, "AB")), told_of(27, ("ACATB", 27)))
        self.assertEqual(last(BEHIND_CAT, count(0, 3, 1, "ABCD")), told_of(30, ("ABTCD", 30)))

    def test_the_word_begins_ahead_of_the_first_square(self):
        self.assertEqual(last(BEHIND_CAT, count(2, 4, 0, "B")), told_of(26, ("CATB", 26)))

    def test_words_across_come_behind_in_the_order_of_the_squares(self):
        self.assertEqual(last(BEHIND_CAT, count(3, 1, 0, "AB")), told_of(10, ("AB", 3), ("CA", 4), ("AB", 3)))
        self.assertEqual(last(BEHIND_CAT, count(1, 1, 0, "DOG")),
                         told_of(26 + 7 + 16 + 27, ("DOG", 26), ("DC", 7), ("OA", 16), ("GT", 27)))

    def test_words_across_a_play_down(self):
        calls = start("CATDOGE", "ABCDEFG", rows=7) + [play(3, 2, 0, "CAT"), draw("XYZ"), play(4, 1, 0, "AB")]
        # CAT from (3, 2) on, AB from (4, 1) on; now down at their ends.
        self.assertEqual(last(calls, count(3, 5, 1, "SO")), told_of(19 + 15 + 43, ("SO", 34), ("CATS", 43)))
        self.assertEqual(last(calls, count(3, 1, 1, "S")), told_of(43 + 20, ("SA", 20), ("SCAT", 43)))
        self.assertEqual(last(calls, count(4, 3, 1, "ED")), told_of(10 + 8, ("AED", 10), ("ABE", 8)))

    def test_letters_beside_that_are_not_tied_make_no_word(self):
        self.assertEqual(last(BEHIND_CAT, count(3, 3, 0, "AB")), told_of(3 + 21, ("AB", 3), ("TA", 21)))

    def test_a_word_across_alone(self):
        self.assertEqual(last(BEHIND_CAT, count(1, 1, 0, "A")), told_of(4, ("AC", 4)))
        self.assertEqual(last(BEHIND_CAT, count(1, 1, 1, "A")), told_of(4, ("AC", 4)))

    def test_the_word_along_the_line_comes_first(self):
        calls = BEHIND_CAT + [play(3, 1, 0, "A"), draw("H")]
        self.assertEqual(last(calls, count(3, 2, 0, "GO")),
                         told_of(23 + 8 + 35, ("AGO", 23), ("AG", 8), ("TO", 35)))
        self.assertEqual(last(calls, count(3, 2, 0, "G")), told_of(16, ("AG", 8), ("AG", 8)))
        self.assertEqual(last(calls, count(3, 2, 1, "GO")), told_of(23 + 8, ("AGO", 23), ("AG", 8)))

    def test_one_tile_in_two_words(self):
        calls = BEHIND_CAT + [play(3, 1, 0, "D"), draw("H")]
        self.assertEqual(last(calls, count(3, 2, 0, "G")), told_of(11 + 8, ("DG", 11), ("AG", 8)))
        self.assertEqual(last(calls, count(3, 2, 1, "G")), told_of(11 + 8, ("AG", 8), ("DG", 11)))

    def test_a_word_that_comes_twice_is_told_twice(self):
        self.assertEqual(last(BEHIND_CAT, count(3, 1, 0, "AB"))[1], 3)

    def test_the_longest_word(self):
        calls = start("CATDOGE", "ABCDEFG", rows=11) + [play(5, 2, 0, "CATDOGE"), draw("HIJKLMN")]
        told = last(calls, count(5, 0, 0, "ABXY"))
        self.assertEqual(told, told_of(55 + 3 + 2, ("ABCATDOGEXY", 60)))

    def test_blanks_are_told_as_their_letters_and_are_worth_nothing(self):
        self.assertEqual(last(GAME, count(2, 1, 0, "cAt")), [1, 1, 3, 3, 1, 20, 1])
        self.assertEqual(last(GAME, count(2, 1, 0, "az")), [0, 1, 2, 1, 26, 0])

    def test_blanks_from_before(self):
        calls = start("C_TDOGE", "ABCDEFG") + [play(2, 1, 0, "CaT"), draw("XYZ")]
        self.assertEqual(last(calls, count(2, 4, 0, "S")), told_of(42, ("CATS", 42)))
        self.assertEqual(last(calls, count(3, 2, 0, "B")), told_of(2, ("AB", 2)))


class Counting(unittest.TestCase):
    def counts(self, special, *call):
        return last(start("CATDOGE", "ABCDEFG", rows=7, squares=special), count(*call))

    def test_letters_twice_and_thrice(self):
        self.assertEqual(self.counts({(3, 1): 1}, 3, 1, 0, "CAT"), told_of(27, ("CAT", 27)))
        self.assertEqual(self.counts({(3, 3): 2}, 3, 1, 0, "CAT"), told_of(64, ("CAT", 64)))

    def test_words_twice_and_thrice(self):
        self.assertEqual(self.counts({(3, 1): 3}, 3, 1, 0, "CAT"), told_of(48, ("CAT", 48)))
        self.assertEqual(self.counts({(3, 1): 4}, 3, 1, 0, "CAT"), told_of(72, ("CAT", 72)))
        self.assertEqual(self.counts({(3, 1): 3, (3, 2): 4}, 3, 1, 0, "CAT"), told_of(144, ("CAT", 144)))

    def test_letters_ahead_of_words(self):
        self.assertEqual(self.counts({(3, 1): 3, (3, 3): 2}, 3, 1, 0, "CAT"), told_of(128, ("CAT", 128)))

    def test_a_blank_on_a_square_that_counts_more(self):
        self.assertEqual(self.counts({(3, 1): 4, (3, 2): 2}, 3, 1, 0, "caT"), [60, 1, 3, 3, 1, 20, 60])

    def test_fifty_more_are_in_the_sum_alone(self):
        calls = start("CATDOGE", "ABCDEFG", rows=9)
        self.assertEqual(last(calls, count(4, 1, 0, "CATDOGE")), told_of(105, ("CATDOGE", 55)))
        self.assertEqual(last(calls, count(4, 1, 0, "CATDOG")), told_of(50, ("CATDOG", 50)))

    def test_fifty_more_once_with_words_across(self):
        calls = start("CATDOGE", "ABCDEFG", rows=9, squares={(5, 0): 4})
        calls += [play(4, 3, 0, "CAT"), draw("XYZ")]
        self.assertEqual(last(calls, count(5, 0, 0, "ABCDEFG")),
                         told_of(84 + 7 + 6 + 26 + 50, ("ABCDEFG", 84), ("CD", 7), ("AE", 6), ("TF", 26)))

    def test_seven_laid_not_seven_letters(self):
        calls = start("CATDOGE", "ABCDEFG", rows=9) + [play(4, 4, 0, "CA"), draw("XY")]
        self.assertEqual(last(calls, count(4, 1, 0, "ABCDE")), told_of(19, ("ABCCADE", 19)))
        self.assertEqual(last(calls, count(4, 0, 0, "ABCDEFG")), told_of(82, ("ABCDCAEFG", 32)))

    def test_squares_count_for_new_tiles_alone(self):
        calls = start("CATDOGE", "ABCDEFG", squares={(2, 1): 2, (2, 2): 4, (2, 4): 3})
        calls += [CAT, draw("XYZ")]
        self.assertEqual(last(calls, count(2, 4, 0, "B")), told_of(52, ("CATB", 52)))
        self.assertEqual(last(calls, count(3, 2, 1, "B")), told_of(3, ("AB", 3)))

    def test_a_new_tile_counts_more_in_both_its_words(self):
        for more, worth in ((1, 5), (2, 7), (3, 6), (4, 9)):
            calls = start("CATDOGE", "ABCDEFG", squares={(3, 2): more}) + [CAT, draw("XYZ")]
            self.assertEqual(last(calls, count(3, 1, 0, "AB")),
                             told_of(2 * worth + 4, ("AB", worth), ("CA", 4), ("AB", worth)))


class NothingChanges(unittest.TestCase):
    tried = [count(2, 1, 0, "CAT"), count(2, 4, 0, "B"), count(3, 1, 0, "ABC"), count(1, 3, 1, "z"),
             count(0, 0, 0, "CAT"), count(2, 2, 1, "A"), count(5, 5, 5, [])]
    looks = [now(), board(), hand(0), hand(1)]

    def test_what_is_told_of_the_game(self):
        for calls in (GAME[:1], GAME, GAME + [swap("C")], GAME + [CAT], BEHIND_CAT, OVER):
            told = run(calls + self.looks + self.tried + self.looks)
            self.assertEqual(told[len(calls):len(calls) + 4], told[-4:])

    def test_what_is_told_of_the_calls_behind_it(self):
        calls = BEHIND_CAT + [play(3, 1, 0, "AB"), challenge(0), swap("X"), draw("H"), play(2, 4, 0, "B"), draw("I")]
        for place in range(len(calls) + 1):
            told = run(calls[:place] + self.tried + calls[place:])
            self.assertEqual(told[:place] + told[place + len(self.tried):], run(calls))

    def test_asked_twice(self):
        for asked in self.tried:
            told = run(BEHIND_CAT + [asked, asked])
            self.assertEqual(told[-1], told[-2])

    def test_it_is_not_the_play_that_is_challenged(self):
        calls = GAME + [word("CAT"), CAT, count(3, 1, 0, "AB"), count(2, 4, 1, "S")]
        self.assertEqual(last(calls, challenge(1))[0], 0)
        calls = GAME + [word("CATS"), CAT, count(2, 4, 0, "S")]
        self.assertEqual(last(calls, challenge(1)), [1, 1, 1, 0, 66, 0, 0])
        self.assertEqual(last(calls, challenge(1), hand(0)), [7, 0] + numbers("DOGECAT"))

    def test_a_play_made_afterwards_counts_what_was_told(self):
        special = {(2, 1): 1, (2, 2): 4, (2, 4): 3, (3, 1): 2, (1, 2): 1, (1, 1): 3}
        calls = start("CATDOGE", "AB_DEFG", squares=special)
        points = [0, 0]
        moves = [(2, 1, 0, "CAT"), (2, 0, 0, "Ab"), (1, 1, 1, "DO"), (0, 2, 1, "BEG"), (3, 3, 0, "GX")]
        for turn, told_as in enumerate(moves):
            told = run(calls + [count(*told_as), play(*told_as)])
            counted = told[-2]
            points[turn % 2] += counted[0]
            self.assertGreater(counted[0], 0)
            self.assertEqual(told[-1][0], counted[0])
            self.assertEqual(told[-1][5:], points)
            drawn = "ZYXWVUTSRQPONMLKJ"[3 * turn:][:told[-1][3]]
            calls += [play(*told_as), draw(drawn)]
            self.assertEqual(last(calls)[0], 0)

    def test_both_refuse_alike(self):
        for row in range(-1, 6):
            for column in range(-1, 6):
                for down in (0, 1):
                    for tiles in ("A", "BAD", "ABCDEFG", "ABC"):
                        played = last(BEHIND_CAT, play(row, column, down, tiles))
                        counted = last(BEHIND_CAT, count(row, column, down, tiles))
                        self.assertEqual(played[0], counted[0])
                        self.assertEqual(len(counted) == 1, played[0] < 0)


if __name__ == "__main__":
    unittest.main()

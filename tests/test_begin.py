"""Point 1: begin and word."""

import unittest

from support import BAG, HIGH, LOW, WORTHS, bag_of, begin, challenge, draw, last, play, run, start, swap, word


def changed(values, place, value):
    found = list(values)
    found[place] = value
    return found


class Begin(unittest.TestCase):
    def test_answers_0_alone(self):
        self.assertEqual(run([begin()]), [[0]])

    def test_every_size_that_may_be(self):
        for rows in (3, 5, 7, 9, 11):
            for players in (2, 3, 4):
                self.assertEqual(last(begin(rows=rows, players=players)), [0])

    def test_sizes_that_may_not_be(self):
        for rows in (LOW, -3, -1, 0, 1, 2, 4, 6, 8, 10, 12, 13, HIGH):
            squares = [0] * min(rows * rows, 130)
            self.assertEqual(last(begin(rows=rows, squares=squares)), [-1], rows)

    def test_numbers_of_players_that_may_not_be(self):
        for players in (LOW, -2, 0, 1, 5, HIGH):
            self.assertEqual(last(begin(players=players)), [-1], players)

    def test_worths(self):
        self.assertEqual(last(begin(worths=[0] + [20] * 26)), [0])
        self.assertEqual(last(begin(worths=[0] * 27)), [0])
        for place in (1, 13, 26):
            for worth in (LOW, -1, 21, HIGH):
                self.assertEqual(last(begin(worths=changed(WORTHS, place, worth))), [-1])
        for worth in (LOW, -1, 1, 20, HIGH):
            self.assertEqual(last(begin(worths=changed(WORTHS, 0, worth))), [-1])
        for many in (0, 1, 26, 28, 130):
            self.assertEqual(last(begin(worths=[0] * many)), [-1])

    def test_bag(self):
        self.assertEqual(last(begin(bag=[30] * 27)), [0])
        for place in (0, 13, 26):
            for many in (LOW, -1, 31, HIGH):
                self.assertEqual(last(begin(bag=changed(BAG, place, many))), [-1])
        for many in (0, 1, 26, 28, 130):
            self.assertEqual(last(begin(bag=[3] * many)), [-1])

    def test_squares(self):
        self.assertEqual(last(begin(rows=3, squares=[0, 1, 2, 3, 4, 0, 1, 2, 3])), [0])
        self.assertEqual(last(begin(rows=11, squares=[4] * 121)), [0])
        for place in (0, 12, 24):
            for more in (LOW, -1, 5, HIGH):
                self.assertEqual(last(begin(squares=changed([0] * 25, place, more))), [-1])
        for rows, many in ((3, 0), (3, 8), (3, 10), (5, 9), (5, 5), (11, 120), (11, 122), (11, 130)):
            self.assertEqual(last(begin(rows=rows, squares=[0] * many)), [-1])

    def test_seven_tiles_for_each_player(self):
        for players in (2, 3, 4):
            enough = bag_of("A" * 7 + "B" * (7 * players - 7))
            self.assertEqual(last(begin(players=players, bag=enough)), [0])
            self.assertEqual(last(begin(players=players, bag=changed(enough, 1, 6))), [-5])
        self.assertEqual(last(begin(bag=[0] * 27)), [-5])

    def test_blanks_count_among_the_tiles(self):
        self.assertEqual(last(begin(bag=[14] + [0] * 26)), [0])
        self.assertEqual(last(begin(bag=[13] + [0] * 26)), [-5])

    def test_the_form_is_told_ahead_of_the_number_of_tiles(self):
        self.assertEqual(last(begin(bag=[0] * 27, squares=[0] * 24)), [-1])
        self.assertEqual(last(begin(bag=[0] * 26)), [-1])
        self.assertEqual(last(begin(bag=[0] * 27, worths=[1] * 27)), [-1])
        self.assertEqual(last(begin(bag=[0] * 27, players=5)), [-1])

    def test_each_player_in_order_draws_seven(self):
        calls = [begin(players=4), draw("ABCDEFG"), draw("ABCDEFG"), draw("HIJKLMN"), draw("HIJKLMN")]
        self.assertEqual(run(calls), [
            [0],
            [0, 0, 1, 7, 73, 0, 0, 0, 0],
            [0, 0, 2, 7, 66, 0, 0, 0, 0],
            [0, 0, 3, 7, 59, 0, 0, 0, 0],
            [0, 1, 0, 0, 52, 0, 0, 0, 0],
        ])

    def test_what_was_is_gone(self):
        played = start("CATDOGE", "ABCDEFG") + [word("CAT"), play(2, 1, 0, "CAT"), challenge(1)]
        for before in (played[:2], played[:4], played, played + [draw("XYZ")]):
            again = start("CATDOGE", "ABCDEFG") + [play(2, 1, 0, "CAT"), draw("XYZ"), swap("A"), draw("B")]
            self.assertEqual(run(before + again)[len(before):], run(again))
        self.assertEqual(last(played, begin(), word("AB")), [1])

    def test_a_swap_under_way_is_gone(self):
        before = start("CATDOGE", "ABCDEFG") + [swap("CAT")]
        again = start("CATDOGE", "ABCDEFG") + [swap("A"), draw("B")]
        self.assertEqual(run(before + again)[len(before):], run(again))

    def test_a_new_game_may_have_another_size(self):
        calls = start("CATDOGE", "ABCDEFG") + start("CATDOGE", "ABCDEFG", "ABCDEFG", rows=11)
        self.assertEqual(last(calls), [0, 1, 0, 0, 59, 0, 0, 0])
        self.assertEqual(last(calls, play(5, 10, 0, "C")), [-6])
        self.assertEqual(last(calls, play(5, 5, 0, "CAT"))[0], 24)

    def test_a_refused_begin_leaves_the_game(self):
        calls = start("CATDOGE", "ABCDEFG") + [word("CAT")]
        for refused in (begin(rows=4), begin(bag=[0] * 27)):
            self.assertEqual(last(calls, refused, word("CAT")), [2])
            self.assertEqual(last(calls, refused, play(2, 1, 0, "CAT")), last(calls, play(2, 1, 0, "CAT")))

    def test_a_refused_begin_makes_no_game(self):
        self.assertEqual(last(begin(rows=4), word("CAT")), [-2])
        self.assertEqual(last(begin(bag=[0] * 27), word("CAT")), [-2])


class Word(unittest.TestCase):
    def test_answers_how_many_there_are(self):
        self.assertEqual(run([begin(), word("CAT"), word("DO"), word("ZZZZZZZZZZZ")]), [[0], [1], [2], [3]])

    def test_one_told_again_is_there_again(self):
        self.assertEqual(run([begin(), word("CAT"), word("CAT"), word("CAT")])[1:], [[1], [2], [3]])

    def test_lengths(self):
        for many, told in ((0, -1), (1, -1), (2, 1), (11, 1), (12, -1), (130, -1)):
            self.assertEqual(last(begin(), word([26] * many)), [told], many)

    def test_letters(self):
        for letter in (LOW, -1, 0, 27, 52, HIGH):
            self.assertEqual(last(begin(), word([letter, 1])), [-1])
            self.assertEqual(last(begin(), word([1, 1, letter])), [-1])
        self.assertEqual(last(begin(), word([1, 26])), [1])

    def test_without_a_game(self):
        self.assertEqual(last(word("CAT")), [-2])
        self.assertEqual(last(word("C")), [-1])
        self.assertEqual(last(word([])), [-1])

    def three_hundred(self, more):
        # More than 120 calls, for with fewer the list can't be filled.
        return [begin()] + [word([1 + k % 26, 1 + k // 26]) for k in range(299)] + more

    def test_at_most_300(self):
        self.assertEqual(run(self.three_hundred([word("CAT")]))[-1], [300])
        self.assertEqual(run(self.three_hundred([word("CAT"), word("DOG")]))[-1], [-5])
        self.assertEqual(run(self.three_hundred([word("CAT"), word("CAT")]))[-1], [-5])
        self.assertEqual(run(self.three_hundred([word("CAT"), word("D")]))[-1], [-1])

    def test_a_refused_word_is_not_in_the_list(self):
        self.assertEqual(run([begin(), word("C"), word([0, 1]), word("AB")])[1:], [[-1], [-1], [1]])
        more = [draw("CATDOGE"), draw("ABCDEFG"), word("XY"), word("CAT"), play(2, 1, 0, "CAT"), challenge(1)]
        self.assertEqual(run(self.three_hundred(more))[-1][0], 1)

    def test_at_any_time(self):
        bag = bag_of("CATDOGE" + "ABCDEFG")
        calls = start("CATDOGE", "ABCDEFG", bag=bag, rows=9)
        calls += [play(4, 2, 0, "CATDOGE"), draw([])]
        self.assertEqual(run(calls)[-1][1], 3)
        for many in range(1, len(calls) + 1):
            self.assertEqual(last(calls[:many], word("CAT")), [1])


if __name__ == "__main__":
    unittest.main()

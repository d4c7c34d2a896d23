"""The interface: the form of what is handed in and given back, and what must not be kept or changed."""

import builtins
import io
import unittest
from contextlib import redirect_stderr, redirect_stdout
from unittest import mock

from support import (
    HIGH, LOW, begin, board, challenge, count, draw, hand, now, pass_turn, play, run, start, swap, word,
)
from tilewords.game import answers

# A game with all calls: plays that stand and fall, challenges of both kinds, swaps, a pass, and turns passed over.
GAME = start("CATDOGE", "ABCDEFG", "HI_KLMN", squares={(2, 1): 1, (2, 2): 4, (2, 0): 2, (3, 3): 3}) + [
    word("CAT"), count(2, 1, 0, "CAT"), play(2, 1, 0, "CAT"), challenge(2), hand(2), draw("XYZ"),
    play(2, 0, 0, "AB"), challenge(0), word("AB"),
    swap("DOX"), draw("PQR"),
    swap("G"), draw("S"),
    play(1, 1, 0, "aH"), word("AH"), word("AC"), word("HA"), challenge(1), challenge(0), draw("TU"),
    swap("N"), draw("O"),
    play(3, 1, 0, "GEY"), draw("VWX"),
    pass_turn(), now(), hand(0), board(),
]

# Refused wherever they stand, by their form alone.
REFUSED_BY_FORM = [
    begin(rows=LOW, squares=[]), begin(players=HIGH), begin(worths=[]), begin(worths=[LOW] * 130), begin(bag=[HIGH] * 130),
    begin(bag=[]), begin(squares=[HIGH] * 130), begin(squares=[LOW] * 25), begin(bag=[0] * 27),
    word([]), word([HIGH] * 130), word([LOW, LOW]), word([0] * 3),
    draw([LOW]), draw([HIGH] * 130), draw([27]),
    play(LOW, LOW, LOW, [LOW]), play(HIGH, HIGH, HIGH, [HIGH] * 130), play(0, 0, 0, []), play(2, 2, 0, [53]),
    challenge(LOW), challenge(HIGH), challenge(3),
    swap([]), swap([LOW]), swap([HIGH] * 130),
    hand(LOW), hand(-1), hand(3), hand(HIGH),
    count(LOW, LOW, LOW, [LOW]), count(HIGH, HIGH, HIGH, [HIGH] * 130), count(0, 0, 0, []), count(2, 2, 0, [53]),
]

LOOKS = [now(), hand(0), hand(1), hand(2), board(), count(2, 4, 0, "S"), count(1, 2, 1, "BcD"), count(2, 1, 0, "CAT")]


def flat(calls):
    return [number for call in calls for number in call]


class Form(unittest.TestCase):
    def test_each_answer_stands_behind_its_length(self):
        calls = flat([word("AB"), begin(players=2), word("AB"), draw("ABCDEFG"), challenge(7)])
        self.assertEqual(answers(calls), [1, -2, 1, 0, 1, 1, 7, 0, 0, 1, 7, 73, 0, 0, 1, -1])

    def test_one_call(self):
        self.assertEqual(answers([5, 0]), [1, -1])
        self.assertEqual(answers([6, 0]), [1, -1])
        self.assertEqual(answers(begin()), [1, 0])
        self.assertEqual(answers([7]), [1, -3])
        self.assertEqual(answers([8]), [5, 3, 3, 0, 0, 0])
        self.assertEqual(answers([9, 0]), [1, -1])
        self.assertEqual(answers([10]), [1, 0])
        self.assertEqual(answers([11, 0, 0, 0, 1, 1]), [1, -1])
        self.assertEqual(answers([11, 0, 0, 0, 0]), [1, -1])

    def test_the_game_that_the_other_tests_go_through(self):
        self.assertEqual(run(GAME), [
            [0], [0, 0, 1, 7, 73, 0, 0, 0], [0, 0, 2, 7, 66, 0, 0, 0], [0, 1, 0, 0, 59, 0, 0, 0],
            [1], [81, 1, 3, 3, 1, 20, 81], [81, 2, 0, 3, 59, 81, 0, 0], [0, 2, 0, 3, 59, 81, 0, 0],
            [7, 1, 8, 9, 0, 11, 12, 13, 14], [0, 1, 1, 0, 56, 81, 0, 0],
            [29, 2, 1, 2, 56, 81, 29, 0], [1, 1, 0, 0, 56, 81, 0, 0], [2],
            [3, 0, 0, 3, 56, 81, 0, 0], [0, 1, 1, 0, 56, 81, 0, 0],
            [1, 0, 1, 1, 56, 81, 0, 0], [0, 1, 2, 0, 56, 81, 0, 0],
            [20, 2, 2, 2, 56, 81, 0, 20], [3], [4], [5],
            [0, 2, 2, 2, 56, 81, 0, 20], [0, 2, 2, 2, 56, 81, 0, 20], [0, 1, 2, 0, 54, 81, 0, 20],
            [1, 0, 2, 1, 54, 81, 0, 20], [0, 1, 0, 0, 54, 81, 0, 20],
            [92, 2, 0, 3, 54, 173, 0, 20], [0, 1, 1, 0, 51, 173, 0, 20],
            [0, 1, 2, 0, 51, 173, 0, 20], [1, 1, 2, 0, 51, 173, 0, 20], [7, 0, 26, 16, 17, 18, 22, 23, 24],
            [5] + [0] * 5 + [0, -1, 8, 0, 0] + [0, 3, 1, 20, 0] + [0, 7, 5, 25, 0] + [0] * 5,
        ])

    def test_whole_numbers_alone(self):
        for calls in (GAME, REFUSED_BY_FORM, LOOKS, GAME + LOOKS):
            told = answers(flat(calls))
            self.assertIs(type(told), list)
            self.assertEqual({type(number) for number in told}, {int})

    def test_how_it_stands_has_a_number_for_each_player(self):
        for players in (2, 3, 4):
            told = run([begin(players=players), draw("ABCDEFG")])
            self.assertEqual(len(told[1]), 1 + 4 + players)

    def test_120_calls_with_long_lists(self):
        calls = [begin(rows=11, squares=[0] * 121)] + [draw([1] * 130)] * 119
        self.assertEqual(run(calls), [[0]] + [[-4]] * 119)
        # The longest list of calls that may be handed in.
        calls = [begin(worths=[HIGH] * 130, bag=[LOW] * 130, squares=[HIGH] * 130)] * 77
        self.assertEqual(run(calls), [[-1]] * 77)

    def test_120_calls_with_long_answers(self):
        told = run([begin(rows=11, squares=[4] * 121)] + [board()] * 119)
        self.assertEqual(told, [[0]] + [[11] + [0] * 121] * 119)


class NothingKept(unittest.TestCase):
    def test_what_is_handed_in_is_the_same_behind_it(self):
        for calls in (GAME, GAME + REFUSED_BY_FORM, GAME + LOOKS, LOOKS, [begin()]):
            handed = flat(calls)
            before = list(handed)
            answers(handed)
            self.assertEqual(handed, before)

    def test_what_is_handed_in_is_not_changed_for_a_while(self):
        class Guarded(list):
            def refuse(self, *rest):
                raise AssertionError("the list handed in was changed")

            append = extend = insert = pop = remove = reverse = sort = clear = refuse
            __setitem__ = __delitem__ = __iadd__ = __imul__ = refuse

        for calls in (GAME, GAME + LOOKS, GAME + REFUSED_BY_FORM):
            self.assertEqual(answers(Guarded(flat(calls))), answers(flat(calls)))

    def test_what_is_given_back_is_not_what_was_handed_in(self):
        handed = begin()
        told = answers(handed)
        told.append(1)
        self.assertEqual(handed, begin())
        self.assertEqual(answers(handed), [1, 0])

    def test_the_same_list_is_answered_alike(self):
        handed = flat(GAME)
        first = answers(handed)
        answers(flat(start("CATDOGE", "ABCDEFG") + [word("DOG"), swap("C")]))
        self.assertEqual(answers(handed), first)

    def test_no_game_is_kept(self):
        answers(flat(GAME))
        self.assertEqual(run([word("CAT"), challenge(0), play(2, 2, 0, "A"), draw([])]), [[-2], [-1], [-1], [-3]])
        self.assertEqual(run([pass_turn(), now(), hand(0), board(), count(2, 4, 0, "S")]),
                         [[-3], [3, 3, 0, 0, 0], [-1], [0], [-1]])

    def test_nothing_is_printed_read_or_imported(self):
        printed = io.StringIO()
        refuse = mock.Mock(side_effect=AssertionError("not asked for"))
        with redirect_stdout(printed), redirect_stderr(printed):
            with mock.patch.object(builtins, "open", refuse), mock.patch.object(builtins, "input", refuse):
                with mock.patch.object(builtins, "__import__", refuse):
                    answers(flat(GAME))
        self.assertEqual(printed.getvalue(), "")


class NothingChangesBehindARefusal(unittest.TestCase):
    def test_wherever_it_stands(self):
        told = run(GAME)
        for place in range(len(GAME) + 1):
            for refused in REFUSED_BY_FORM:
                with_it = run(GAME[:place] + [refused] + GAME[place:])
                self.assertEqual(len(with_it[place]), 1)
                self.assertLess(with_it[place][0], 0)
                self.assertEqual(with_it[:place] + with_it[place + 1:], told)

    def test_those_that_hang_on_how_it_stands(self):
        tried = [draw(tiles) for tiles in ([], "A", "AA", "AAA", "ZZZZ", "ZZZZZZZ")]
        tried += [play(row, 2, 0, tiles) for row in (0, 2, 4) for tiles in ("Q", "A", "ABCDEFG", "CAT", "z")]
        tried += [challenge(player) for player in range(3)]
        tried += [swap(tiles) for tiles in ("Q", "AAA", "ABCDEFGH", "_", "C")]
        tried += [pass_turn(), hand(2), count(2, 2, 0, "A"), count(0, 0, 0, "A"), count(4, 5, 0, "A")]
        told = run(GAME)
        refusals = {}
        for place in range(len(GAME) + 1):
            for call in tried:
                with_it = run(GAME[:place] + [call] + GAME[place:])
                if with_it[place][0] < 0:
                    refusals[call[0], with_it[place][0]] = True
                    self.assertEqual(with_it[:place] + with_it[place + 1:], told)
        for kind in ((3, -3), (3, -4), (3, -5), (4, -1), (4, -3), (4, -4), (4, -6), (5, -1), (5, -3), (5, -4),
                     (6, -3), (6, -4), (7, -3), (9, -1), (11, -1), (11, -6)):
            self.assertIn(kind, refusals)

    def test_a_swap_with_too_few_in_the_bag(self):
        bag = [0] * 27
        for tile in list(range(1, 8)) * 2 + list(range(8, 14)):
            bag[tile] += 1
        calls = start("ABCDEFG", "ABCDEFG", bag=bag) + [play(2, 1, 0, "ABC")]
        self.assertEqual(run(calls[:3] + [swap("A")] + calls[3:])[3], [-5])
        self.assertEqual(run(calls[:3] + [swap("A")] + calls[3:])[4], run(calls)[3])

    def test_a_bag_too_small(self):
        self.assertEqual(run(GAME[:7] + [begin(bag=[13] + [0] * 26)] + GAME[7:])[8:], run(GAME)[7:])


class LooksChangeNothing(unittest.TestCase):
    def test_wherever_they_stand(self):
        told = run(GAME)
        for place in range(len(GAME) + 1):
            with_them = run(GAME[:place] + LOOKS + GAME[place:])
            self.assertEqual(with_them[:place] + with_them[place + len(LOOKS):], told)

    def test_one_leaves_the_others_as_they_are(self):
        for place in range(len(GAME) + 1):
            told = run(GAME[:place] + LOOKS + LOOKS)[place:]
            self.assertEqual(told[:len(LOOKS)], told[len(LOOKS):])


if __name__ == "__main__":
    unittest.main()

"""Many games of calls drawn by lot (always the same ones), held against what must always be true.

What a play counts and whether it may be is found here in another way than in the package: by all the words that stand
on the board.
"""

import copy
import random
import unittest

from support import numbers, squares_of
from tilewords.moves import begin, challenge, draw, play, swap, word
from tilewords.table import Game

GAMES = 150
CALLS = 120


def all_runs(grid, rows):
    """Every row of tiles on the board, of two or more, across and down."""
    lines = [[(row, column) for column in range(rows)] for row in range(rows)]
    lines += [[(row, column) for row in range(rows)] for column in range(rows)]
    found = []
    for line in lines:
        current = []
        for square in line + [None]:
            if square in grid:
                current.append(square)
                continue
            if len(current) >= 2:
                found.append(current)
            current = []
    return found


def expected_play(game, row, column, down, tiles):
    """The squares, the words and the count of a play that may be; else None."""
    rows = game.rows
    grid = {(k // rows, k % rows): face for k, face in enumerate(game.board) if face != 0}
    if (row, column) in grid:
        return None
    new = {}
    place = (row, column)
    for tile in tiles:
        while place in grid:
            place = (place[0] + down, place[1] + 1 - down)
        if max(place) >= rows:
            return None
        new[place] = tile if tile <= 26 else 26 - tile
        place = (place[0] + down, place[1] + 1 - down)
    if grid:
        tied = any((r + a, c + b) in grid for r, c in new for a, b in ((0, 1), (1, 0), (0, -1), (-1, 0)))
    else:
        tied = (rows // 2, rows // 2) in new
    after = {**grid, **new}
    words = [run for run in all_runs(after, rows) if any(square in new for square in run)]
    if not tied or not words:
        return None
    total = 50 if len(new) == 7 else 0
    for run in words:
        worth = 0
        for square in run:
            more = game.squares[square[0] * rows + square[1]] if square in new else 0
            worth += game.worths[max(after[square], 0)] * {1: 2, 2: 3}.get(more, 1)
        for square in run:
            more = game.squares[square[0] * rows + square[1]] if square in new else 0
            worth *= {3: 2, 4: 3}.get(more, 1)
        total += worth
    letters = {tuple(abs(after[square]) for square in run) for run in words}
    return list(new), letters, total


def all_tiles(game):
    found = list(game.bag)
    for tile in [tile for hand in game.hands for tile in hand] + game.aside:
        found[tile] += 1
    for face in game.board:
        if face != 0:
            found[max(face, 0)] += 1
    return found


class Walk:
    """One game of calls drawn by lot."""

    def __init__(self, test, seed):
        self.test = test
        self.lot = random.Random(seed)
        self.game = Game()
        self.rows = self.lot.choice((3, 5, 7, 9, 11))
        self.players = self.lot.choice((2, 3, 4))
        bag = [self.lot.randint(0, 2) for sort in range(27)]
        bag[0] = self.lot.randint(0, 6)
        bag[1] += 28 if self.lot.random() < 0.5 else 7 * self.players
        self.bag = [min(many, 30) for many in bag]
        worths = [0] + [self.lot.choice((0, 0, 1, 5, 20)) for letter in range(26)]
        squares = [self.lot.randint(0, 4) for square in range(self.rows ** 2)]
        test.assertEqual(begin(self.game, self.rows, self.players, worths, self.bag, squares), [0])

    def some_draw(self):
        tiles = [tile for tile, many in enumerate(self.game.bag) for one in range(many)]
        self.lot.shuffle(tiles)
        return tiles[:self.game.due]

    def some_play(self):
        hand = list(self.game.hands[self.game.turn])
        self.lot.shuffle(hand)
        tiles = hand[:self.lot.randint(1, max(1, len(hand)))] or [1]
        tiles = [tile if tile > 0 else self.lot.randint(27, 52) for tile in tiles]
        return self.lot.randrange(self.rows), self.lot.randrange(self.rows), self.lot.randint(0, 1), tiles

    def try_play(self):
        before = copy.deepcopy(self.game)
        row, column, down, tiles = self.some_play()
        expected = expected_play(before, row, column, down, tiles)
        told = play(self.game, row, column, down, tiles)
        if expected is None:
            self.test.assertEqual(told, [-6])
            return
        laid, letters, total = expected
        self.test.assertEqual(told[0], total)
        self.test.assertEqual(self.game.points[before.turn], before.points[before.turn] + total)
        self.test.assertEqual(self.game.laid, [r * self.rows + c for r, c in laid])
        self.before_play = before
        self.letters = letters
        self.tiles = tiles

    def try_challenge(self):
        game = self.game
        for letters in sorted(self.letters):
            if self.lot.random() < 0.7 and len(game.words) < 300:
                word(game, list(letters))
        missing = len([letters for letters in self.letters if letters not in game.words])
        whose = game.turn
        player = (whose + self.lot.randint(1, self.players - 1)) % self.players
        told = challenge(game, player)
        self.test.assertEqual(told[0], missing)
        if missing == 0:
            self.test.assertEqual((game.phase, game.lost[player]), (2, 1))
            return
        before = self.before_play
        self.test.assertEqual(game.board, before.board)
        self.test.assertEqual(game.bag, before.bag)
        self.test.assertEqual(sorted(game.hands[whose]), sorted(before.hands[whose]))
        self.test.assertEqual(game.hands[whose][-len(self.tiles):], [t if t < 27 else 0 for t in self.tiles])
        if game.phase != 3:
            self.test.assertEqual(game.points, before.points)

    def step(self):
        game = self.game
        if game.phase == 2 and self.lot.random() < 0.3:
            self.try_challenge()
        elif game.phase in (0, 2):
            self.test.assertEqual(draw(game, self.some_draw())[0], 0)
        elif game.phase == 1 and sum(game.bag) >= 7 and self.lot.random() < 0.1:
            hand = game.hands[game.turn]
            swapped = self.lot.sample(hand, self.lot.randint(1, len(hand)))
            self.test.assertEqual(swap(game, swapped)[0], len(swapped))
        elif game.phase == 1:
            self.try_play()

    def check(self):
        game = self.game
        self.test.assertEqual(all_tiles(game), self.bag)
        self.test.assertTrue(all(len(hand) <= 7 for hand in game.hands))
        self.test.assertEqual(game.idle >= 6 or (sum(game.bag) == 0 and [] in game.hands and game.phase not in (0, 2)),
                              game.phase == 3)


class WholeGames(unittest.TestCase):
    def test_no_tile_is_lost_and_plays_count_what_they_are_worth(self):
        ended = 0
        for seed in range(GAMES):
            walk = Walk(self, seed)
            for call in range(CALLS):
                walk.step()
                walk.check()
            ended += walk.game.phase == 3
        self.assertGreater(ended, GAMES // 4)


class HandOrder(unittest.TestCase):
    def game(self, first):
        game = Game()
        begin(game, 5, 2, [0] * 27, [7] * 27, squares_of(5))
        draw(game, numbers(first))
        draw(game, numbers("ABCDEFG"))
        return game

    def test_what_falls_is_behind_the_others_as_it_was_laid(self):
        game = self.game("CA_DOGE")
        play(game, 2, 1, 0, numbers("DtCG"))
        self.assertEqual(game.hands[0], numbers("AOE"))
        challenge(game, 1)
        self.assertEqual(game.hands[0], numbers("AOED_CG"))

    def test_what_is_laid_or_swapped_is_taken_where_it_comes_first(self):
        game = self.game("ABAB_A_")
        play(game, 2, 1, 0, numbers("AzB"))
        self.assertEqual(game.hands[0], numbers("ABA_"))
        draw(game, numbers("XYZ"))
        self.assertEqual(game.hands[0], numbers("ABA_XYZ"))
        game = self.game("ABAB_A_")
        swap(game, numbers("_A"))
        self.assertEqual(game.hands[0], numbers("BABA_"))
        draw(game, numbers("XY"))
        self.assertEqual(game.hands[0], numbers("BABA_XY"))


if __name__ == "__main__":
    unittest.main()

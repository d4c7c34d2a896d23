"""Whole games with all the calls: one that is written out, and many that are drawn by lot (always the same ones).

What those by lot must answer is told by a model that works in another way than the package: a board of its taken
squares alone, a bag of single tiles, the words of a play found among all that stand on the board, and the row of turns
without points read from a list of all turns.
"""

import random
import unittest

import support
from support import (
    HIGH, LOW, bag_of, begin, board, challenge, count, draw, hand, now, numbers, pass_turn, play, run, swap, word,
)

GAMES = 200
CALLS = 120
LOOKS = [now(), board(), hand(0), hand(1), hand(2), hand(3)]

# What a call answered, 0 for all that's no refusal, or how it was over by that call.
SEEN = [
    ("begin", 0), ("begin", -1), ("begin", -5), ("word", 0), ("word", -1), ("word", -2),
    ("draw", 0), ("draw", -1), ("draw", -3), ("draw", -4), ("draw", -5),
    ("play", 0), ("play", -1), ("play", -3), ("play", -4), ("play", -6),
    ("challenge", 0), ("challenge", -1), ("challenge", -3), ("challenge", -4),
    ("swap", 0), ("swap", -1), ("swap", -3), ("swap", -4), ("swap", -5),
    ("pass_turn", 0), ("pass_turn", -3), ("now", 0), ("hand", 0), ("hand", -1), ("board", 0),
    ("count", 0), ("count", -1), ("count", -6),
    ("draw", "the turn"), ("draw", "an empty hand"), ("draw", "a turn passed over"), ("challenge", "the turn"),
    ("pass_turn", "the turn"), ("pass_turn", "a turn passed over"),
]


class WrittenOut(unittest.TestCase):
    def test_to_the_end_and_begun_again(self):
        game = begin(rows=7, bag=bag_of("CATDOGE" + "ABCDEFG" + "X_"))
        column = (1, 2, 1, "DOGEX")
        told = [
            (pass_turn(), [-3]), (now(), [3, 3, 0, 0, 0]), (board(), [0]), (hand(0), [-1]),
            (game, [0]), (now(), [0, 0, 0, 7, 16, 0, 0]),
            (draw("CATDOGE"), [0, 0, 1, 7, 9, 0, 0]), (draw("ABCDEFG"), [0, 1, 0, 0, 2, 0, 0]),
            (word("CAT"), [1]), (swap("C"), [-5]), (pass_turn(), [0, 1, 1, 0, 2, 0, 0]),
            (play(3, 2, 0, "BAD"), [7, 2, 1, 2, 2, 0, 7]), (challenge(0), [1, 1, 0, 0, 2, 0, 0]),
            (hand(1), [7, 0] + numbers("CEFGBAD")),
            (count(3, 2, 0, "CAT"), [24, 1, 3, 3, 1, 20, 24]), (play(3, 2, 0, "CAT"), [24, 2, 0, 2, 2, 24, 0]),
            (challenge(1), [0, 2, 0, 2, 2, 24, 0]), (hand(1), [7, 1] + numbers("CEFGBAD")),
            (draw("X_"), [0, 1, 0, 0, 0, 24, 0]), (hand(1), [7, 0] + numbers("CEFGBAD")),
            (play(3, 5, 0, "s"), [24, 2, 0, 0, 0, 48, 0]), (draw([]), [0, 1, 1, 0, 0, 48, 0]),
            (pass_turn(), [0, 1, 0, 0, 0, 48, 0]), (hand(0), [5, 0] + numbers("DOGEX")),
            (count(*column), [35, 1, 6] + numbers("DOCGEX") + [35]),
            (play(*column), [35, 2, 0, 0, 0, 83, 0]), (hand(0), [0, 0]), (draw([]), [0, 3, 0, 0, 0, 111, -28]),
            (now(), [3, 3, 0, 0, 0, 111, -28]), (pass_turn(), [-3]), (hand(0), [0, 0]),
            (hand(1), [7, 0] + numbers("CEFGBAD")),
            (board(), [7] + [0] * 9 + [4] + [0] * 6 + [15] + [0] * 6 + [3, 1, 20, -19, 0] +
             [0, 0, 7] + [0] * 6 + [5] + [0] * 6 + [24] + [0] * 4),
            (word("AT"), [2]),
            (game, [0]), (now(), [0, 0, 0, 7, 16, 0, 0]), (board(), [7] + [0] * 49), (hand(1), [0, 0]),
            (word("AT"), [1]), (draw("CATDOGE"), [0, 0, 1, 7, 9, 0, 0]),
        ]
        self.assertEqual(run([call for call, reply in told]), [reply for call, reply in told])


def runs_along(grid, rows, down):
    """Of each taken square the row of tiles that it stands in, across (0) or down (1)."""
    found = {}
    for line in range(rows):
        current = []
        for place in range(rows + 1):
            square = (place, line) if down else (line, place)
            if square in grid:
                current.append(square)
                found[square] = current
            else:
                current = []
    return found


def squares_in_reach(grid, rows, row, column, down, tiles):
    """The squares that the tiles of a play come to lie on, with their faces; None if the line has no room."""
    new = {}
    for tile in tiles:
        while (row, column) in grid:
            row, column = row + down, column + 1 - down
        if max(row, column) >= rows:
            return None
        new[row, column] = tile if tile <= 26 else 26 - tile
        row, column = row + down, column + 1 - down
    return new


class Model:
    """The game once more; each call answers a list, or the number of its refusal."""

    def __init__(self):
        self.rows = self.players = self.due = self.turn = 0
        self.phase = 3
        self.grid, self.bag, self.hands, self.points, self.lost, self.words = {}, [], [], [], [], []
        self.turns, self.aside, self.new, self.made, self.total = [], [], {}, [], 0
        self.over_by = ""

    def stands(self):
        return [self.phase, self.turn, self.due, len(self.bag)] + self.points

    def begin(self, rows, players, worths, bag, squares):
        fits = rows in (3, 5, 7, 9, 11) and players in (2, 3, 4) and len(worths) == len(bag) == 27
        if not fits or worths[0] or not set(worths) <= set(range(21)) or not set(bag) <= set(range(31)):
            return -1
        if len(squares) != rows ** 2 or not set(squares) <= set(range(5)):
            return -1
        if sum(bag) < 7 * players:
            return -5
        self.__init__()
        self.rows, self.players, self.worths = rows, players, worths
        self.bag = [tile for tile in range(27) for one in range(bag[tile])]
        self.more = {(k // rows, k % rows): more for k, more in enumerate(squares)}
        self.hands, self.points = [[] for player in range(players)], [0] * players
        self.phase, self.due = 0, 7
        return [0]

    def word(self, letters):
        if len(letters) not in range(2, 12) or not set(letters) <= set(range(1, 27)):
            return -1
        if not self.players:
            return -2
        self.words.append(letters)
        return [len(self.words)]

    def draw(self, tiles):
        if not set(tiles) <= set(range(27)):
            return -1
        if self.phase in (1, 3):
            return -3
        if len(tiles) != self.due:
            return -4
        left = without(self.bag, tiles)
        if left is None:
            return -5
        self.bag = left + self.aside
        self.hands[self.turn] += tiles
        if self.phase == 2:
            self.end_turn(self.total > 0)
        elif self.aside:
            self.aside = []
            self.end_turn(False)
        elif self.turn < self.players - 1:
            self.turn += 1
        else:
            self.turn, self.phase, self.due = 0, 1, 0
        return [0] + self.stands()

    def fitting(self, row, column, down, tiles):
        squares = [(r, c) for r in range(self.rows) for c in range(self.rows)]
        return (row, column) in squares and down in (0, 1) and len(tiles) in range(1, 8) and \
            set(tiles) <= set(range(1, 53))

    def laying(self, row, column, down, tiles):
        """The new tiles, the sum and the words (letters, what it counts) of a play; None if it can't be laid so."""
        grid, rows = self.grid, self.rows
        new = None if (row, column) in grid else squares_in_reach(grid, rows, row, column, down, tiles)
        if new is None:
            return None
        near = {(r + a, c + b) for r, c in new for a, b in ((0, 1), (1, 0), (0, -1), (-1, 0))}
        if not (near & set(grid) if grid else (rows // 2, rows // 2) in new):
            return None
        after = {**grid, **new}
        runs = [runs_along(after, rows, down)[row, column]]
        runs += [runs_along(after, rows, 1 - down)[square] for square in new]
        words = [([abs(after[square]) for square in run], self.counts(run, after, new)) for run in runs if run[1:]]
        total = sum(worth for letters, worth in words) + 50 * (len(new) == 7)
        return (new, total, words) if words else None

    def counts(self, run, after, new):
        worth, times = 0, 1
        for square in run:
            more = self.more[square] if square in new else 0
            worth += self.worths[max(after[square], 0)] * {1: 2, 2: 3}.get(more, 1)
            times *= {3: 2, 4: 3}.get(more, 1)
        return worth * times

    def play(self, row, column, down, tiles):
        if not self.fitting(row, column, down, tiles):
            return -1
        if self.phase != 1:
            return -3
        left = without(self.hands[self.turn], [tile if tile <= 26 else 0 for tile in tiles])
        if left is None:
            return -4
        laying = self.laying(row, column, down, tiles)
        if laying is None:
            return -6
        self.new, self.total, self.made = laying
        self.grid = {**self.grid, **self.new}
        self.hands[self.turn] = left
        self.points[self.turn] += self.total
        self.phase, self.due = 2, min(7 - len(left), len(self.bag))
        return [self.total] + self.stands()

    def challenge(self, player):
        if player not in range(self.players):
            return -1
        if self.phase != 2:
            return -3
        if player == self.turn:
            return -4
        missing = {tuple(letters) for letters, worth in self.made if letters not in self.words}
        if missing:
            self.points[self.turn] -= self.total
            self.hands[self.turn] += [max(self.grid.pop(square), 0) for square in self.new]
            self.end_turn(False)
        elif player not in self.lost:
            self.lost.append(player)
        return [len(missing)] + self.stands()

    def swap(self, tiles):
        if not tiles or not set(tiles) <= set(range(27)):
            return -1
        if self.phase != 1:
            return -3
        if len(self.bag) < 7:
            return -5
        left = without(self.hands[self.turn], tiles)
        if left is None:
            return -4
        self.hands[self.turn], self.aside = left, tiles
        self.phase, self.due = 0, len(tiles)
        return [len(tiles)] + self.stands()

    def pass_turn(self):
        if self.phase != 1:
            return -3
        self.end_turn(False)
        return [0] + self.stands()

    def now(self):
        return [self.phase] + self.stands()

    def hand(self, player):
        if player not in range(self.players):
            return -1
        return [len(self.hands[player]), int(player in self.lost)] + self.hands[player]

    def board(self):
        return [self.rows] + [self.grid.get((r, c), 0) for r in range(self.rows) for c in range(self.rows)]

    def count(self, row, column, down, tiles):
        if not self.fitting(row, column, down, tiles):
            return -1
        laying = self.laying(row, column, down, tiles)
        if laying is None:
            return -6
        told = [laying[1], len(laying[2])]
        for letters, worth in laying[2]:
            told += [len(letters)] + letters + [worth]
        return told

    def is_over(self):
        return (len(self.turns) >= 6 and not any(self.turns[-6:])) or (not self.bag and [] in self.hands)

    def end_turn(self, with_points):
        self.turns.append(with_points)
        self.over_by = "the turn" if self.bag or [] not in self.hands else "an empty hand"
        while not self.is_over():
            self.turn = (self.turn + 1) % self.players
            if self.turn not in self.lost:
                self.phase, self.due = 1, 0
                return
            self.lost.remove(self.turn)
            self.turns.append(False)
            self.over_by = "a turn passed over"
        held = [sum(self.worths[tile] for tile in tiles) for tiles in self.hands]
        self.points = [points + (-worth if tiles else sum(held))
                       for points, worth, tiles in zip(self.points, held, self.hands)]
        self.phase, self.turn, self.due = 3, 0, 0


def without(held, tiles):
    """What is left of the tiles held when these are taken, each where it comes first; None if they aren't there."""
    left = list(held)
    for tile in tiles:
        if tile not in left:
            return None
        left.remove(tile)
    return left


class Lot:
    """Calls drawn by lot, most of them such as fit how the model's game stands."""

    def __init__(self, seed):
        self.lot = random.Random(seed)
        self.model = Model()

    def odds(self, chance):
        return self.lot.random() < chance

    def some_begin(self):
        rows, players = self.lot.choice((3, 5, 7, 9, 11)), self.lot.choice((2, 3, 4))
        bag = [self.lot.choice((0, 0, 1, 2)) for sort in range(27)]
        bag[0] = self.lot.randint(0, 8)
        bag[1 + self.lot.randrange(5)] += self.lot.choice((7, 14, 21, 28))
        # Where nothing is worth anything, plays that stand are turns without points.
        worth = (0, 0, 1, 5, 20) if self.odds(0.7) else (0,)
        worths = [0] + [self.lot.choice(worth) for letter in range(26)]
        squares = [self.lot.randint(0, 4) for square in range(rows ** 2)]
        return "begin", rows, players, worths, bag, squares

    def some_draw(self):
        tiles = list(self.model.bag)
        self.lot.shuffle(tiles)
        return "draw", tiles[:self.model.due]

    def some_tiles(self):
        hands = self.model.hands[self.model.turn:] or [[1, 2, 3]]
        tiles = list(hands[0]) or [1]
        self.lot.shuffle(tiles)
        tiles = tiles[:self.lot.randint(1, 7)]
        return [tile if tile > 0 else self.lot.choice((27, 28, self.lot.randint(27, 52))) for tile in tiles]

    def some_place(self, name):
        """A play or a count from some square on; of several the first that may be, if there is one."""
        rows = max(self.model.rows, 1)
        for attempt in range(25):
            place = self.lot.randrange(rows), self.lot.randrange(rows), self.lot.randint(0, 1), self.some_tiles()
            if self.model.fitting(*place) and self.model.laying(*place) is not None:
                break
        return name, *place

    def some_word(self):
        made = [letters for letters, worth in self.model.made if letters not in self.model.words]
        return "word", list(self.lot.choice(made or [[1, 2]]))

    def some_challenge(self):
        return "challenge", self.lot.randrange(self.model.players)

    def some_swap(self):
        tiles = self.model.hands[self.model.turn]
        return "swap", self.lot.sample(tiles, self.lot.randint(1, len(tiles)))

    def some_look(self):
        name = self.lot.choice(("now", "board", "hand", "count"))
        if name == "count":
            return self.some_place(name)
        return (name, self.lot.randint(0, 3)) if name == "hand" else (name,)

    def any_number(self):
        return self.lot.choice((LOW, -1, 0, 1, 2, 3, 26, 27, 53, HIGH, self.lot.randint(0, 8)))

    def any_list(self):
        many = self.lot.choice((0, 1, 2, 7, 8, self.model.due))
        return [self.lot.choice((self.any_number(), self.lot.randint(1, 5), 1)) for place in range(many)]

    def any_call(self):
        """A call that takes no heed of how it stands, mostly wrong."""
        name = self.lot.choice(("begin", "word", "draw", "play", "challenge", "swap", "pass_turn", "hand", "count"))
        if name == "begin":
            found = list(self.some_begin())
            place = self.lot.randint(1, 5)
            found[place] = self.any_number() if place < 3 else self.lot.choice((self.any_list(), [0] * 27))
            return tuple(found)
        if name in ("word", "draw", "swap"):
            return name, self.any_list()
        if name in ("play", "count"):
            return name, self.any_number(), self.any_number(), self.lot.choice((0, 1, 2, -1)), self.any_list()
        return (name, self.any_number()) if name in ("challenge", "hand") else (name,)

    def fitting_call(self):
        phase = self.model.phase
        if phase == 3:
            return self.lot.choice((self.some_begin(), self.some_look(), self.some_word()))
        if phase == 2 and self.odds(0.6):
            return self.some_word() if self.odds(0.6) else self.some_challenge()
        if phase in (0, 2):
            return self.some_draw()
        if self.odds(0.25):
            return ("pass_turn",) if self.odds(0.6) or len(self.model.bag) < 7 else self.some_swap()
        return self.some_place("play")

    def some_calls(self):
        """One call, or a count and the play that it tells of."""
        if self.odds(0.1):
            return [self.any_call()]
        if self.odds(0.15):
            return [self.some_look()]
        call = self.fitting_call()
        return [("count",) + call[1:], call] if call[0] == "play" and self.odds(0.5) else [call]

    def game(self):
        """The calls of one game, their answers by the model, and what is to be seen in all games together."""
        calls, replies, seen = [], [], {}
        while len(calls) < CALLS - 1 - len(LOOKS):
            for call in self.some_calls():
                before = self.model.phase
                reply = getattr(self.model, call[0])(*call[1:])
                calls.append(call)
                replies.append([reply] if isinstance(reply, int) else reply)
                seen[call[0], min(replies[-1][0], 0)] = True
                if before != 3 and self.model.phase == 3:
                    seen[call[0], self.model.over_by] = True
        return calls, replies, seen


class DrawnByLot(unittest.TestCase):
    @classmethod
    def setUpClass(cls):
        cls.games = []
        cls.seen = {}
        for seed in range(GAMES):
            calls, replies, seen = Lot(seed).game()
            cls.games.append((calls, replies, run([getattr(support, name)(*rest) for name, *rest in calls] + LOOKS)))
            cls.seen.update(seen)

    def test_the_model_and_the_package_answer_alike(self):
        for seed, (calls, replies, told) in enumerate(self.games):
            for place, call in enumerate(calls):
                self.assertEqual(told[place], replies[place], (seed, place, call))

    def test_all_that_may_come_is_among_them(self):
        self.assertEqual([kind for kind in SEEN if kind not in self.seen], [])

    def test_a_play_counts_what_was_told_of_it(self):
        compared = 0
        for calls, replies, told in self.games:
            for place in range(1, len(calls)):
                if calls[place] == ("play",) + calls[place - 1][1:] and told[place][0] >= 0:
                    compared += 1
                    self.assertEqual(told[place][0], told[place - 1][0])
        self.assertGreater(compared, GAMES)

    def test_no_tile_is_lost_and_nobody_has_more_than_seven(self):
        for calls, replies, told in self.games:
            begun = [call for call, reply in zip(calls, told) if call[0] == "begin" and reply == [0]]
            stands, squares = told[-6], told[-5][1:]
            hands = [reply[2:] for reply in told[-4:] if reply != [-1]]
            self.assertTrue(all(len(tiles) <= 7 for tiles in hands))
            tiles = stands[4] + sum(face != 0 for face in squares) + sum(len(tiles) for tiles in hands)
            # Tiles that a swap has put aside are counted once they are back in the bag.
            if stands[0] != 0:
                self.assertEqual(tiles, sum(begun[-1][4]))


if __name__ == "__main__":
    unittest.main()

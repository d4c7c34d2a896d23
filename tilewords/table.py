"""A game as it stands, and how its turns follow one another."""

DRAWING = 0
PLAYING = 1
CHALLENGING = 2
OVER = 3

HAND_SIZE = 7
IDLE_LIMIT = 6


class Game:
    """One game; before the first begin it has no players and no squares, and is over."""

    def __init__(self):
        self.set_up(0, 0, [], [], [])
        self.phase = OVER
        self.due = 0

    def set_up(self, rows, players, worths, bag, squares):
        self.rows = rows
        self.players = players
        self.worths = list(worths)
        self.bag = list(bag)
        self.squares = list(squares)
        self.board = [0] * (rows * rows)
        self.hands = [[] for player in range(players)]
        self.points = [0] * players
        self.lost = [0] * players
        self.words = []
        self.phase = DRAWING
        self.turn = 0
        self.due = HAND_SIZE
        # Tiles put aside by a swap are in nobody's hand and not yet in the bag.
        self.aside = []
        self.laid = []
        self.down = 0
        self.counted = 0
        self.idle = 0


def standing(game):
    """How it stands: the phase, whose turn it is, how many tiles are due, how many the bag has, all points."""
    return [game.phase, game.turn, game.due, sum(game.bag)] + game.points


def follow_first_draw(game):
    """Let the next player draw their first tiles, or the first player play when all have theirs."""
    if game.turn + 1 < game.players:
        game.turn += 1
        return
    game.turn = 0
    await_play(game)


def await_play(game):
    game.phase = PLAYING
    game.due = 0


def end_turn(game, counted):
    """End a turn that counted so much, and find whose is next, or that it's over."""
    game.idle = 0 if counted > 0 else game.idle + 1
    if game.idle >= IDLE_LIMIT or is_played_out(game):
        end_game(game)
        return
    go_to_next(game)


def is_played_out(game):
    return sum(game.bag) == 0 and any([len(hand) == 0 for hand in game.hands])


def go_to_next(game):
    """Give the turn to the next player who hasn't lost theirs; those passed over are turns without points."""
    game.turn = (game.turn + 1) % game.players
    while game.lost[game.turn] == 1:
        game.lost[game.turn] = 0
        game.idle += 1
        if game.idle >= IDLE_LIMIT:
            end_game(game)
            return
        game.turn = (game.turn + 1) % game.players
    await_play(game)


def end_game(game):
    """Settle the points by the tiles that are left in hands."""
    held = [sum([game.worths[tile] for tile in hand]) for hand in game.hands]
    for player in range(game.players):
        if len(game.hands[player]) == 0:
            game.points[player] += sum(held)
        else:
            game.points[player] -= held[player]
    game.phase = OVER
    game.turn = 0
    game.due = 0

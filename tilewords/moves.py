"""The calls that move a game on. Each answers a list of numbers; a refusal is its number below 0 alone.

The refusals of a call are asked in the order in which they are told, for the first that applies is the answer, and
ahead of every change, for behind a refusal all is as it was.
"""

from tilewords.board import LETTERS, board_with, face_of, letters_on, squares_for, tile_of, words_of, worth_of_play
from tilewords.table import CHALLENGING, DRAWING, HAND_SIZE, PLAYING, end_turn, follow_first_draw, standing

SORTS = 27
MOST_WORDS = 300
SWAP_NEEDS = 7


def all_within(numbers, low, high):
    return all([low <= number <= high for number in numbers])


def is_game(rows, players, worths, bag, squares):
    """Whether begin's numbers have the form that a game needs."""
    if not 3 <= rows <= 11 or rows % 2 == 0 or not 2 <= players <= 4:
        return False
    if len(worths) != SORTS or not all_within(worths, 0, 20) or worths[0] != 0:
        return False
    if len(bag) != SORTS or not all_within(bag, 0, 30):
        return False
    return len(squares) == rows * rows and all_within(squares, 0, 4)


def begin(game, rows, players, worths, bag, squares):
    if not is_game(rows, players, worths, bag, squares):
        return [-1]
    if sum(bag) < HAND_SIZE * players:
        return [-5]
    game.set_up(rows, players, worths, bag, squares)
    return [0]


def word(game, letters):
    if not 2 <= len(letters) <= 11 or not all_within(letters, 1, LETTERS):
        return [-1]
    if game.players == 0:
        return [-2]
    if len(game.words) >= MOST_WORDS:
        return [-5]
    game.words.append(tuple(letters))
    return [len(game.words)]


def is_in_hand(hand, tiles):
    return all([tiles.count(tile) <= hand.count(tile) for tile in tiles])


def is_in_bag(bag, tiles):
    return all([tiles.count(tile) <= bag[tile] for tile in tiles])


def draw(game, tiles):
    if not all_within(tiles, 0, LETTERS):
        return [-1]
    if game.phase != DRAWING and game.phase != CHALLENGING:
        return [-3]
    if len(tiles) != game.due:
        return [-4]
    if not is_in_bag(game.bag, tiles):
        return [-5]
    for tile in tiles:
        game.bag[tile] -= 1
        game.hands[game.turn].append(tile)
    follow_draw(game)
    return [0] + standing(game)


def follow_draw(game):
    """Go on behind a draw, as it belongs to a play, a swap or the beginning."""
    if game.phase == CHALLENGING:
        end_turn(game, game.counted)
    elif len(game.aside) > 0:
        for tile in game.aside:
            game.bag[tile] += 1
        game.aside = []
        end_turn(game, 0)
    else:
        follow_first_draw(game)


def is_play(game, row, column, down, tiles):
    """Whether a play's numbers tell a square, a direction and tiles."""
    if not 0 <= row < game.rows or not 0 <= column < game.rows:
        return False
    return 0 <= down <= 1 and 1 <= len(tiles) <= HAND_SIZE and all_within(tiles, 1, 2 * LETTERS)


def play(game, row, column, down, tiles):
    if not is_play(game, row, column, down, tiles):
        return [-1]
    if game.phase != PLAYING:
        return [-3]
    faces = [face_of(tile) for tile in tiles]
    if not is_in_hand(game.hands[game.turn], [tile_of(face) for face in faces]):
        return [-4]
    laid = squares_for(game.board, game.rows, row, column, down, faces)
    if len(laid) == 0:
        return [-6]
    put_on_board(game, laid, down, faces)
    return [game.counted] + standing(game)


def put_on_board(game, laid, down, faces):
    """Lay a play that may be, count it, and leave it open to challenges till its draw."""
    hand = game.hands[game.turn]
    for face in faces:
        hand.remove(tile_of(face))
    game.board = board_with(game.board, laid, faces)
    game.laid = laid
    game.down = down
    words = words_of(game.board, game.rows, laid, down)
    game.counted = worth_of_play(game.board, words, laid, game.squares, game.worths)
    game.points[game.turn] += game.counted
    game.phase = CHALLENGING
    game.due = min(HAND_SIZE - len(hand), sum(game.bag))


def unlisted_words(game):
    """The different words of the play on the board that the list doesn't have."""
    missing = []
    for run in words_of(game.board, game.rows, game.laid, game.down):
        letters = letters_on(game.board, run)
        if letters not in game.words and letters not in missing:
            missing.append(letters)
    return missing


def take_back(game):
    """Undo the play on the board: its tiles are back in hand, behind the others."""
    for square in game.laid:
        game.hands[game.turn].append(tile_of(game.board[square]))
        game.board[square] = 0
    game.points[game.turn] -= game.counted


def challenge(game, player):
    if not 0 <= player < game.players:
        return [-1]
    if game.phase != CHALLENGING:
        return [-3]
    if player == game.turn:
        return [-4]
    missing = len(unlisted_words(game))
    if missing > 0:
        take_back(game)
        end_turn(game, 0)
    else:
        game.lost[player] = 1
    return [missing] + standing(game)


def swap(game, tiles):
    if len(tiles) == 0 or not all_within(tiles, 0, LETTERS):
        return [-1]
    if game.phase != PLAYING:
        return [-3]
    if sum(game.bag) < SWAP_NEEDS:
        return [-5]
    if not is_in_hand(game.hands[game.turn], tiles):
        return [-4]
    for tile in tiles:
        game.hands[game.turn].remove(tile)
    game.aside = list(tiles)
    game.phase = DRAWING
    game.due = len(tiles)
    return [len(tiles)] + standing(game)


def pass_turn(game):
    if game.phase != PLAYING:
        return [-3]
    end_turn(game, 0)
    return [0] + standing(game)

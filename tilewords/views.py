"""The calls that only look at a game. Each answers a list of numbers as the other calls do, and changes nothing."""

from tilewords.board import board_with, face_of, letters_on, squares_for, words_of, worth_of_play, worth_of_word
from tilewords.moves import is_play
from tilewords.table import standing


def tell_now(game):
    return [game.phase] + standing(game)


def tell_hand(game, player):
    if not 0 <= player < game.players:
        return [-1]
    return [len(game.hands[player]), game.lost[player]] + game.hands[player]


def tell_board(game):
    return [game.rows] + game.board


def tell_count(game, row, column, down, tiles):
    if not is_play(game, row, column, down, tiles):
        return [-1]
    faces = [face_of(tile) for tile in tiles]
    laid = squares_for(game.board, game.rows, row, column, down, faces)
    if len(laid) == 0:
        return [-6]
    filled = board_with(game.board, laid, faces)
    words = words_of(filled, game.rows, laid, down)
    told = [worth_of_play(filled, words, laid, game.squares, game.worths), len(words)]
    for run in words:
        told.append(len(run))
        told.extend(letters_on(filled, run))
        told.append(worth_of_word(filled, run, laid, game.squares, game.worths))
    return told

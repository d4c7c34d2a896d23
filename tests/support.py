"""How the tests write calls down and read answers.

Tiles and words are told as texts: a capital is a letter's tile, "_" a blank in hand or bag, a small letter a blank
that is laid as that letter.
"""

from tilewords.game import answers

LOW = -2147483648
HIGH = 2147483647

# A is worth 1, B 2, .. T 20; U to Z 1.
WORTHS = [0] + list(range(1, 21)) + [1] * 6
# 80 tiles.
BAG = [2] + [3] * 26


def code(sign):
    if sign == "_":
        return 0
    if sign.isupper():
        return ord(sign) - ord("A") + 1
    return ord(sign) - ord("a") + 27


def numbers(tiles):
    return [code(sign) for sign in tiles] if isinstance(tiles, str) else list(tiles)


def counted(values):
    return [len(values)] + values


def bag_of(tiles):
    """The bag that has these tiles and no others."""
    found = [0] * 27
    for tile in numbers(tiles):
        found[tile] += 1
    return found


def squares_of(rows, special=None):
    """A board's squares, plain but for those told as {(row, column): 1 to 4}."""
    found = [0] * (rows * rows)
    for (row, column), more in (special or {}).items():
        found[row * rows + column] = more
    return found


def begin(rows=5, players=2, worths=WORTHS, bag=BAG, squares=None):
    if squares is None:
        squares = squares_of(rows)
    elif isinstance(squares, dict):
        squares = squares_of(rows, squares)
    return [1, rows, players] + counted(list(worths)) + counted(list(bag)) + counted(list(squares))


def word(letters):
    return [2] + counted(numbers(letters))


def draw(tiles):
    return [3] + counted(numbers(tiles))


def play(row, column, down, tiles):
    return [4, row, column, down] + counted(numbers(tiles))


def challenge(player):
    return [5, player]


def swap(tiles):
    return [6] + counted(numbers(tiles))


def pass_turn():
    return [7]


def now():
    return [8]


def hand(player):
    return [9, player]


def board():
    return [10]


def count(row, column, down, tiles):
    return [11, row, column, down] + counted(numbers(tiles))


def start(*hands, **kind):
    """A game in which these players have drawn these first hands."""
    return [begin(players=len(hands), **kind)] + [draw(tiles) for tiles in hands]


def run(calls):
    """The answers to the calls, one list for each."""
    flat = []
    for call in calls:
        flat.extend(call)
    told = answers(flat)
    found = []
    place = 0
    while place < len(told):
        found.append(told[place + 1:place + 1 + told[place]])
        place += 1 + told[place]
    if place != len(told) or len(found) != len(calls):
        raise AssertionError("the answers don't fit the calls: " + repr(told))
    return found


def last(*calls):
    """The answer to the last call; a list among the calls may hold several of them."""
    return run(flattened(calls))[-1]


def flattened(calls):
    found = []
    for call in calls:
        if isinstance(call[0], list):
            found.extend(call)
        else:
            found.append(call)
    return found


def hand_now(calls):
    """The sorted hand of the player who is to play behind the calls, found by what a play is refused for."""
    found = []
    for tile in range(27):
        played = 27 if tile == 0 else tile
        for many in range(1, 8):
            if last(calls, play(0, 0, 0, [played] * many)) == [-4]:
                break
            found.append(tile)
    return found


def bag_now(calls):
    """The bag behind the calls, where one tile is to be drawn: which sorts a draw may have."""
    return [tile for tile in range(27) if last(calls, draw([tile])) != [-5]]

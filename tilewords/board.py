"""The squares of a board, the words that stand on them, and what these count.

A board is one list, row after row. A square of it holds 0 or a face: the letter, below 0 if the tile is a blank.
"""

LETTERS = 26
LETTER_TIMES = (1, 2, 3, 1, 1)
WORD_TIMES = (1, 1, 1, 2, 3)
FULL_PLAY = 7
FULL_PLAY_MORE = 50


def face_of(played):
    """The face that a tile shows which a play tells as 1 to 52."""
    return played if played <= LETTERS else LETTERS - played


def tile_of(face):
    """The tile in hand or bag that shows this face: every blank is 0 there."""
    return max(face, 0)


def line_from(rows, row, column, down):
    """The squares from this one to the end of its row or column."""
    if down == 1:
        return [place * rows + column for place in range(row, rows)]
    return [row * rows + place for place in range(column, rows)]


def neighbours(rows, square):
    """The squares beside, above and below this one."""
    row = square // rows
    column = square % rows
    found = []
    if row > 0:
        found.append(square - rows)
    if row < rows - 1:
        found.append(square + rows)
    if column > 0:
        found.append(square - 1)
    if column < rows - 1:
        found.append(square + 1)
    return found


def run_through(board, rows, square, down):
    """The squares of the unbroken row of tiles along a line that this square is in."""
    row = square // rows
    column = square % rows
    line = line_from(rows, 0, column, 1) if down == 1 else line_from(rows, row, 0, 0)
    first = row if down == 1 else column
    last = first
    while first > 0 and board[line[first - 1]] != 0:
        first -= 1
    while last < rows - 1 and board[line[last + 1]] != 0:
        last += 1
    return line[first:last + 1]


def words_of(board, rows, laid, down):
    """The words of a play whose tiles lie on the board, each as its squares: along its line, then those across."""
    runs = [run_through(board, rows, laid[0], down)]
    for square in laid:
        runs.append(run_through(board, rows, square, 1 - down))
    return [run for run in runs if len(run) >= 2]


def board_with(board, laid, faces):
    """A copy of the board with these faces on the squares laid."""
    filled = list(board)
    for square, face in zip(laid, faces):
        filled[square] = face
    return filled


def touches(board, rows, laid):
    """Whether one of the squares has a neighbour with a tile."""
    for square in laid:
        if any([board[beside] != 0 for beside in neighbours(rows, square)]):
            return True
    return False


def is_tied(board, rows, laid):
    """Whether a play covers the middle of an empty board, or else touches what lies there."""
    if any(board):
        return touches(board, rows, laid)
    middle = rows // 2
    return middle * rows + middle in laid


def squares_for(board, rows, row, column, down, faces):
    """The squares that these faces come to lie on, from this one on; none if they can't be laid so."""
    if board[row * rows + column] != 0:
        return []
    laid = [square for square in line_from(rows, row, column, down) if board[square] == 0][:len(faces)]
    if len(laid) < len(faces) or not is_tied(board, rows, laid):
        return []
    # A lone tile on the middle of an empty board is tied, but makes no word.
    if len(words_of(board_with(board, laid, faces), rows, laid, down)) == 0:
        return []
    return laid


def letters_on(board, run):
    """The letters of a word, as the list of words knows it: a blank is the letter that it's laid as."""
    return tuple([abs(board[square]) for square in run])


def worth_of_word(board, run, laid, squares, worths):
    """What one word counts; a square counts more only for a tile that is new there."""
    total = 0
    times = 1
    for square in run:
        worth = worths[tile_of(board[square])]
        if square in laid:
            worth *= LETTER_TIMES[squares[square]]
            times *= WORD_TIMES[squares[square]]
        total += worth
    return total * times


def worth_of_play(board, words, laid, squares, worths):
    """What a play counts whose tiles lie on the board and make these words."""
    total = sum([worth_of_word(board, run, laid, squares, worths) for run in words])
    return total + FULL_PLAY_MORE if len(laid) == FULL_PLAY else total

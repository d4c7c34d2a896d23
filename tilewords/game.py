"""The way in: the calls on one new game, one behind another, as one list of whole numbers."""

from tilewords.moves import begin, challenge, draw, pass_turn, play, swap, word
from tilewords.table import Game
from tilewords.views import tell_board, tell_count, tell_hand, tell_now

# Of each call how many whole numbers it has, then how many lists.
FORMS = {
    1: (2, 3), 2: (0, 1), 3: (0, 1), 4: (3, 1), 5: (1, 0), 6: (0, 1),
    7: (0, 0), 8: (0, 0), 9: (1, 0), 10: (0, 0), 11: (3, 1),
}


def end_of_list(calls, place):
    """Where the list ends whose length stands at this place."""
    return place + 1 + calls[place]


def answer(game, number, whole, lists):
    """What the call of this number answers."""
    if number == 1:
        return begin(game, whole[0], whole[1], lists[0], lists[1], lists[2])
    if number == 2:
        return word(game, lists[0])
    if number == 3:
        return draw(game, lists[0])
    if number == 4:
        return play(game, whole[0], whole[1], whole[2], lists[0])
    if number == 5:
        return challenge(game, whole[0])
    if number == 6:
        return swap(game, lists[0])
    if number == 7:
        return pass_turn(game)
    if number == 8:
        return tell_now(game)
    if number == 9:
        return tell_hand(game, whole[0])
    if number == 10:
        return tell_board(game)
    return tell_count(game, whole[0], whole[1], whole[2], lists[0])


def answers(calls):
    """Of each call, in order, how many numbers it answers, then these."""
    game = Game()
    told = []
    place = 0
    while place < len(calls):
        number = calls[place]
        form = FORMS[number]
        whole = calls[place + 1:place + 1 + form[0]]
        place += 1 + form[0]
        lists = []
        while len(lists) < form[1]:
            after = end_of_list(calls, place)
            lists.append(calls[place + 1:after])
            place = after
        reply = answer(game, number, whole, lists)
        told.append(len(reply))
        told.extend(reply)
    return told

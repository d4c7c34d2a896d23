"""A word game on a board: tilewords.game.answers(calls) is the way in."""

"""Players who guess all at once, each seeing all hats but its own."""

from hatguess.answers import Least
from hatguess.hats import check_colours, check_hats, check_player
from hatguess.tables import check_tables, find_least


def guess(colours, which, others):
    """Tell the colour that a player guesses who sees these hats."""
    check_colours(colours)
    check_hats(colours, others)
    check_player(len(others) + 1, which)
    # Each player guesses as if the sum of all hats, by the colours' count,
    # were its own count. Of as many players in a row as there are colours,
    # this is so for just one, whatever the sum is.
    return (which - sum(others)) % colours


def guesses(colours, hats):
    """Tell what all players guess."""
    check_colours(colours)
    check_hats(colours, hats)
    # Each player's guess, with what the player sees taken from the sum of
    # all: adding up anew for each takes time that grows with the square.
    total = sum(hats)
    return [(which - (total - hat)) % colours for which, hat in enumerate(hats)]


def least(colours, tables):
    """Tell how many are right at the least by these tables, and hats at which no more are."""
    check_colours(colours)
    check_tables(colours, tables)
    right, hats = find_least(colours, tables)
    return Least(right, hats)

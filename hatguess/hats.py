"""What colours, hats and players are, and the refusal of what is none."""

from hatguess.errors import BadColours, BadHats, BadPlayer

FEWEST_COLOURS = 2

# The refusals show nothing of what was handed in: a number of very many
# digits cannot be written out, and would raise an error of its own.


def is_whole(thing):
    """Tell whether this is a whole number."""
    # Python counts True and False among the integers, the document does not.
    return isinstance(thing, int) and not isinstance(thing, bool)


def is_colours(thing):
    """Tell whether this is a count of colours."""
    return is_whole(thing) and thing >= FEWEST_COLOURS


def is_hat(colours, thing):
    """Tell whether this is a hat of one of so many colours."""
    return is_whole(thing) and 0 <= thing < colours


def is_hats(colours, thing):
    """Tell whether this is a list of hats of so many colours."""
    return isinstance(thing, list) and all(is_hat(colours, hat) for hat in thing)


def check_colours(colours):
    """Refuse what is no count of colours."""
    if not is_colours(colours):
        raise BadColours("colours are a whole number from 2 on")


def check_hats(colours, hats):
    """Refuse what is no list of hats of so many colours."""
    if not is_hats(colours, hats):
        raise BadHats("hats are a list of whole numbers from 0 to one less than there are colours")


def check_player(players, which):
    """Refuse what is no count of one of so many players."""
    if not is_whole(which) or not 0 <= which < players:
        raise BadPlayer("a player is a whole number from 0 to one less than there are players")

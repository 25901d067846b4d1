"""What colours and hats are, and the refusal of what is none."""

from hatguess.errors import BadColours, BadHats

FEWEST_COLOURS = 2


def is_whole(thing):
    """Tell whether this is a whole number."""
    # Python counts True and False among the integers, the document does not.
    return isinstance(thing, int) and not isinstance(thing, bool)


def is_hat(colours, thing):
    """Tell whether this is a hat of one of so many colours."""
    return is_whole(thing) and 0 <= thing < colours


def check_colours(colours):
    """Refuse what is no count of colours."""
    # The refusals show nothing of what was handed in: a number of very many
    # digits cannot be written out, and would raise an error of its own.
    if not is_whole(colours) or colours < FEWEST_COLOURS:
        raise BadColours("colours are a whole number from 2 on")


def check_hats(colours, hats):
    """Refuse what is no list of hats of so many colours."""
    if not isinstance(hats, list):
        raise BadHats("hats are a list")
    for hat in hats:
        if not is_hat(colours, hat):
            raise BadHats("a hat is a whole number from 0 to one less than there are colours")

"""Players in a line, each seeing the hats ahead and hearing the calls behind."""

from hatguess.hats import check_colours, check_hats


def call(colours, ahead, heard):
    """Tell the colour that a player calls who sees these hats and has heard these calls."""
    check_colours(colours)
    check_hats(colours, ahead)
    check_hats(colours, heard)
    seen = sum(ahead)
    if not heard:
        return seen % colours
    # The first call is the sum of all hats but the first player's. The later
    # calls are hats in that sum, so what is left of it is the player's own.
    return (heard[0] - sum(heard[1:]) - seen) % colours


def calls(colours, hats):
    """Tell what all players call, the one behind all others first."""
    check_colours(colours)
    check_hats(colours, hats)
    if not hats:
        return []
    # All but the first call their own hats, whatever these are: asking each
    # player in turn would tell the same, in time that grows with the square.
    others = hats[1:]
    return [call(colours, others, [])] + others

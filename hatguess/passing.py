"""Players with hats of two colours who guess or pass, all at once."""

from hatguess.errors import BadHats, BadNumber, BadPower, Won
from hatguess.hats import check_hats, check_player, is_whole

COLOURS = 2

# How many players there can be, by the powers of two from the first on.
PLAYERS = (1, 3, 7, 15, 31, 63)

# Each player has a mark, its count and one. The marks of all with hats of
# colour 1, mixed by exclusive or, give nothing at the lost hats alone. At any
# other hats they give the mark of one player: with that player's hat changed,
# and no other's, they are lost hats.


def check_all(hats, unseen):
    """Refuse what is no list of 0 and 1, or, with the hats unseen, not of as many players as there can be."""
    check_hats(COLOURS, hats)
    if len(hats) + unseen not in PLAYERS:
        raise BadHats("players are 1, 3, 7, 15, 31 or 63")


def check_power(power):
    """Refuse what is no power of two that players can be one less than."""
    if not is_whole(power) or not 1 <= power <= len(PLAYERS):
        raise BadPower("a power is a whole number from 1 to 6")


def check_number(power, number):
    """Refuse what is no number of lost hats."""
    many = 1 << (PLAYERS[power - 1] - power)
    if not is_whole(number) or not 0 <= number < many:
        raise BadNumber("a number is a whole number from 0 to one less than there are lost hats")


def mixed(hats):
    """Mix the marks of all players with hats of colour 1."""
    mix = 0
    for mark, hat in enumerate(hats, start=1):
        if hat == 1:
            mix ^= mark
    return mix


def word(mark, mix):
    """Tell what the player with this mark says, by what the others' hats give."""
    # The player guesses where one colour of its own hat would make lost
    # hats, and guesses the other. At lost hats all do so, and all are wrong;
    # at any others just one does, who is right.
    if mix == 0:
        return 1
    if mix == mark:
        return 0
    return None


def says(which, others):
    """Tell what a player says who sees these hats: a colour, or None to pass."""
    check_all(others, 1)
    check_player(len(others) + 1, which)
    # A hat of colour 0 in the player's own place adds nothing to the mix.
    return word(which + 1, mixed(others[:which] + [0] + others[which:]))


def said(hats):
    """Tell what all players say."""
    check_all(hats, 0)
    mix = mixed(hats)
    return [word(mark, mix ^ (mark * hat)) for mark, hat in enumerate(hats, start=1)]


def won(hats):
    """Tell whether they win: some guess, and all that guess are right."""
    check_all(hats, 0)
    return mixed(hats) != 0


def free_players(players):
    """List the players whose marks are no powers of two: their hats can be any at lost hats."""
    return [mark - 1 for mark in range(1, players + 1) if mark & (mark - 1) != 0]


def lost_by(power, number):
    """Tell the lost hats of this number."""
    check_power(power)
    check_number(power, number)
    players = PLAYERS[power - 1]
    hats = [0] * players
    rest = number
    for player in free_players(players):
        hats[player] = rest & 1
        rest >>= 1
    # The players that are not free take away what the free ones give.
    mix = mixed(hats)
    for place in range(power):
        hats[(1 << place) - 1] = (mix >> place) & 1
    return hats


def number_of(hats):
    """Tell the number of these lost hats."""
    check_all(hats, 0)
    if mixed(hats) != 0:
        raise Won("they win at these hats")
    number = 0
    for player in reversed(free_players(len(hats))):
        number = number * 2 + hats[player]
    return number

"""Guesses told by tables: what tables are, and how many are right by them."""

from hatguess.errors import BadTables
from hatguess.hats import is_hats, is_whole

MOST_WAYS = 256


def ways(colours, players, most):
    """Count the ways in which hats can be, or tell some number above most where they are more."""
    # Of many players the ways would be a number too long to work with, and
    # of a count above most no more is asked than that it is above.
    many = 1
    for player in range(players):
        if many > most:
            break
        many *= colours
    return many


def is_tables(colours, thing):
    """Tell whether this is a list of one table or more, each a list of colours of the length that is due."""
    if not isinstance(thing, list) or not thing or not isinstance(thing[0], list):
        return False
    length = len(thing[0])
    if ways(colours, len(thing) - 1, length) != length:
        return False
    return all(is_hats(colours, table) and len(table) == length for table in thing)


def check_tables(colours, tables):
    """Refuse what is no list of tables, and tables of more hats than are looked at."""
    if not is_tables(colours, tables):
        raise BadTables("tables are a list, for each player a list of colours, one for each way of the others' hats")
    if ways(colours, len(tables), MOST_WAYS) > MOST_WAYS:
        raise BadTables("all hats can be in 256 ways at the most")


def as_number(colours, hats):
    """Read hats as the figures of a number, the first one the highest."""
    number = 0
    for hat in hats:
        number = number * colours + hat
    return number


def as_hats(colours, players, number):
    """Write a number as the hats that are its figures, the highest first."""
    hats = []
    rest = number
    for player in range(players):
        rest, hat = divmod(rest, colours)
        hats.append(hat)
    return hats[::-1]


def count_right(colours, tables):
    """Count how many are right at all hats at which some are, by these hats' numbers."""
    # Each guess of a table is right at just one of all hats: going over the
    # guesses takes no longer than the tables are, however many the hats are.
    counts = {}
    worth = len(tables[0])
    for table in tables:
        for others, guess in enumerate(table):
            above, below = divmod(others, worth)
            number = (above * colours + guess) * worth + below
            counts[number] = counts.get(number, 0) + 1
        worth //= colours
    return counts


def fewest_right(colours, tables, counts):
    """Tell how many are right at the least, by what was counted of these tables."""
    if len(counts) < colours * len(tables[0]):
        return 0
    return min(counts.values())


def find_least(colours, tables):
    """Tell how many are right at the least, and the first hats at which no more are, as a pair."""
    counts = count_right(colours, tables)
    right = fewest_right(colours, tables, counts)
    number = 0
    while counts.get(number, 0) > right:
        number += 1
    return right, as_hats(colours, len(tables), number)


def is_least(colours, tables, right, hats):
    """Tell whether so many are right at the least by these tables, and no more at these hats."""
    if not is_whole(right) or not is_hats(colours, hats) or len(hats) != len(tables):
        return False
    counts = count_right(colours, tables)
    if fewest_right(colours, tables, counts) != right:
        return False
    return counts.get(as_number(colours, hats), 0) == right

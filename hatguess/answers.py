"""What is told as an answer, and whether it is so."""

from hatguess.hats import is_colours
from hatguess.tables import is_least, is_tables


class Answer:
    """Something told that can be looked at again."""


class Least(Answer):
    """How many are right at the least by tables of guesses, and hats at which no more are."""

    def __init__(self, right, hats):
        self.right = right
        self.hats = list(hats)

    def shows(self, colours, tables):
        """Tell whether it is so by these tables."""
        if not is_colours(colours) or not is_tables(colours, tables):
            return False
        return is_least(colours, tables, self.right, self.hats)

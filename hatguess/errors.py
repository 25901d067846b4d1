"""The errors that tell why something handed in is refused."""


class HatError(ValueError):
    """Something handed in is refused."""


class BadColours(HatError):
    """No count of colours."""


class BadHats(HatError):
    """No list of hats of so many colours."""


class BadPlayer(HatError):
    """No count of one of the players."""


class BadTables(HatError):
    """No tables of guesses."""


class BadPower(HatError):
    """No power of two that players can be one less than."""


class BadNumber(HatError):
    """No number of lost hats."""


class Won(HatError):
    """Hats at which the players win, where lost ones are asked for."""

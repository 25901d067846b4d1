"""What several tests of the project hand in and ask."""

import itertools
import unittest
from fractions import Fraction

from hatguess.errors import HatError

VAST = [10 ** 30, 10 ** 30 + 57, 2 ** 200 - 1, 10 ** 5000]


class RefusalCase(unittest.TestCase):
    """A test of what is refused."""

    def refused(self, error, ask, *told):
        with self.assertRaises(HatError) as caught:
            ask(*told)
        self.assertIs(type(caught.exception), error)


def all_hats(colours, players):
    """All hats of so many colours, as a number's figures count up."""
    return [list(hats) for hats in itertools.product(range(colours), repeat=players)]


def strewn(colours, players, first=1):
    """Hats that go all over the colours, without chance."""
    hats = []
    hat = first
    for player in range(players):
        hat = (hat * 6364136223846793005 + colours // 3 + player) % (colours << 64)
        hats.append((hat >> 33) % colours)
    return hats


class Odd:
    """Something that no question suits: asked anything, it fails."""

    def refuse(self, *rest):
        raise RuntimeError("asked something that only a number or a list is asked")

    __eq__ = __lt__ = __le__ = __gt__ = __ge__ = __len__ = __iter__ = refuse
    __getitem__ = __bool__ = __int__ = __index__ = __mod__ = __repr__ = __str__ = refuse
    __hash__ = None


def no_numbers():
    """Things of many kinds, none of them a whole number."""
    return [
        True, False, None, "", "2", "abc", b"", b"2", 2.0, 0.0, 1.5, float("nan"), float("inf"), 2j, Fraction(2),
        [], [2], (), (2,), {}, {2: 2}, set(), {2}, frozenset([2]), range(3), bytearray(b"2"), Odd(), object(),
        int, len, lambda: 2, NotImplemented, ..., iter([2]),
    ]


def no_lists():
    """Things of many kinds, none of them a list."""
    return [
        True, False, None, 0, 1, -1, 10 ** 30, 1.5, "", "01", "abc", b"", b"\x00\x01", bytearray(b"\x00"),
        (), (0,), (0, 1), {}, {0: 1}, set(), {0, 1}, frozenset(), range(0), range(2), iter([]), iter([0, 1]),
        (hat for hat in [0, 1]), {0: 1}.keys(), Odd(), object(), list, len, NotImplemented, ...,
    ]


def no_hats(colours):
    """Things of many kinds, none of them a list of hats of so many colours."""
    wrong = [-1, -colours, colours, colours + 1, 10 * colours, 10 ** 5000 * colours] + no_numbers()
    endless = [0]
    endless.append(endless)
    held = [[thing] for thing in wrong]
    held += [[0, 1, thing] for thing in wrong]
    held += [[thing, 0, 1] for thing in wrong]
    held += [[1, thing, 0] for thing in wrong]
    return no_lists() + held + [endless, [[]], [[0]], [[0], [1]]]


def no_colours():
    """Things of many kinds, none of them a count of colours."""
    return [1, 0, -1, -2, -10 ** 30, -10 ** 5000] + no_numbers()


def no_players(players):
    """Things of many kinds, none of them a count of one of so many players."""
    return [-1, -players, players, players + 1, 10 ** 30, -10 ** 30, 10 ** 5000, -10 ** 5000] + no_numbers()

"""What colours and hats are."""

import unittest

from hatguess.errors import BadColours, BadHats, BadPlayer
from hatguess.hats import check_colours, check_hats, check_player, is_colours, is_hat, is_hats, is_whole
from tests.helper import no_colours, no_hats, no_numbers, no_players


class Wholes(unittest.TestCase):
    def test_whole_numbers(self):
        for number in [0, 1, -1, 2, 10 ** 30, -10 ** 30, 10 ** 5000]:
            self.assertIs(is_whole(number), True)

    def test_others(self):
        for number, thing in enumerate(no_numbers()):
            with self.subTest(number=number):
                self.assertIs(is_whole(thing), False)


class Colours(unittest.TestCase):
    def test_counts_from_two_on(self):
        for colours in [2, 3, 4, 100, 10 ** 30, 10 ** 5000]:
            check_colours(colours)
            self.assertIs(is_colours(colours), True)

    def test_others(self):
        for number, thing in enumerate(no_colours()):
            with self.subTest(number=number):
                self.assertIs(is_colours(thing), False)
                self.assertRaises(BadColours, check_colours, thing)


class Hats(unittest.TestCase):
    def test_each_colour_is_a_hat(self):
        for colours in [2, 3, 7]:
            told = [hat for hat in range(-3, 10) if is_hat(colours, hat)]
            self.assertEqual(told, list(range(colours)))

    def test_edges_of_very_many_colours(self):
        colours = 10 ** 5000
        told = [is_hat(colours, hat) for hat in [-1, 0, 1, colours - 1, colours, colours + 1]]
        self.assertEqual(told, [False, True, True, True, False, False])

    def test_lists_of_hats_of_any_count(self):
        for hats in [[], [0], [2], [0, 1, 2], [2] * 1000]:
            check_hats(3, hats)
            self.assertIs(is_hats(3, hats), True)

    def test_others(self):
        for colours in [2, 3, 10 ** 30]:
            for number, thing in enumerate(no_hats(colours)):
                with self.subTest(colours=colours, number=number):
                    self.assertIs(is_hats(colours, thing), False)
                    self.assertRaises(BadHats, check_hats, colours, thing)


class Players(unittest.TestCase):
    def test_counts_of_players(self):
        for players in [1, 2, 7]:
            for which in range(players):
                check_player(players, which)

    def test_others(self):
        for players in [1, 2, 7]:
            for number, thing in enumerate(no_players(players)):
                with self.subTest(players=players, number=number):
                    self.assertRaises(BadPlayer, check_player, players, thing)


if __name__ == "__main__":
    unittest.main()
